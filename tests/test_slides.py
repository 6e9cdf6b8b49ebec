import inspect
import unittest

from markslide import slides as module
from markslide.errors import BadMarks, BadSlide, BadWeb, Unlike
from markslide.slides import bars, fewest, gone, room, rooms, slides, told
from tests.helper import (
    COMB,
    FIFTEEN,
    LARGER,
    SMALLER,
    SPIDER,
    SPOILT_MARKS,
    SPOILT_WEBS,
    all_lists,
    bare,
    beside,
    full,
    grid,
    halves,
    own_rooms,
    own_sets,
    own_steps,
    own_ways,
    ring,
    road,
    small_webs,
    star,
)


def with_steps(some):
    for name, web in some.items():
        for size in range(web[0] + 1):
            yield name, web, size, own_steps(web, size)


def small_with_steps():
    for web in small_webs():
        for size in range(web[0] + 1):
            yield web, size, own_steps(web, size)


class Interface(unittest.TestCase):
    def test_arguments(self):
        asked = {
            "slides": ["web", "marks"],
            "gone": ["web", "marks", "some"],
            "fewest": ["web", "marks", "goal"],
            "room": ["web", "marks"],
            "rooms": ["web", "size"],
            "bars": ["web", "marks", "goal", "some"],
            "told": ["web", "marks", "goal"],
        }
        for name, names in asked.items():
            with self.subTest(name):
                self.assertEqual(list(inspect.signature(getattr(module, name)).parameters), names)


class Slides(unittest.TestCase):
    def test_against_all_sets(self):
        for name, web, size, steps in with_steps(SMALLER):
            for marks, out in steps.items():
                with self.subTest(name, marks=marks):
                    found = slides(web, marks)
                    self.assertIs(type(found), list)
                    self.assertEqual(found, sorted(out))

    def test_against_all_sets_of_every_small_web(self):
        for web, size, steps in small_with_steps():
            for marks, out in steps.items():
                self.assertEqual(slides(web, marks), sorted(out), (web, marks))

    def test_against_all_sets_of_larger_webs(self):
        for name, web in LARGER.items():
            for size in (1, 3, 4):
                for marks, out in own_steps(web, size).items():
                    self.assertEqual(slides(web, marks), sorted(out), (name, marks))

    def test_written_out(self):
        self.assertEqual(slides(road(5), (0, 3)), [(0, 1), (3, 2), (3, 4)])
        self.assertEqual(slides(road(5), (2,)), [(2, 1), (2, 3)])
        self.assertEqual(slides(ring(4), (0,)), [(0, 1), (0, 3)])
        self.assertEqual(slides(star(5), (0,)), [(0, 1), (0, 2), (0, 3), (0, 4)])
        self.assertEqual(slides(SPIDER, (9,)), [(9, 0), (9, 3), (9, 6)])

    def test_each_is_a_pair(self):
        for slide in slides(grid(4, 3), (0, 7, 10)):
            self.assertIs(type(slide), tuple)
            self.assertEqual(len(slide), 2)

    def test_none(self):
        self.assertEqual(slides(bare(1), ()), [])
        self.assertEqual(slides(bare(1), (0,)), [])
        self.assertEqual(slides(road(12), ()), [])
        self.assertEqual(slides(ring(4), (0, 2)), [])
        self.assertEqual(slides(bare(12), tuple(range(12))), [])
        self.assertEqual(slides(star(5), (1, 2)), [])


class Gone(unittest.TestCase):
    def test_no_slides(self):
        self.assertEqual(gone(road(5), (0, 3), []), (0, 3))
        self.assertEqual(gone(bare(1), (), []), ())

    def test_every_list_of_up_to_three(self):
        for name in ("road", "odd ring", "grid", "twisted"):
            web = SMALLER[name]
            for size in (1, 2, 3):
                steps = own_steps(web, size)
                for length in (1, 2, 3):
                    for marks in steps:
                        for way, end in all_lists(steps, marks, length)[::7]:
                            self.assertEqual(gone(web, marks, way), end, (name, marks, way))

    def test_written_out(self):
        found = gone(road(5), (0, 2), [(2, 3), (3, 4), (0, 1), (1, 2)])
        self.assertEqual(found, (2, 4))
        self.assertIs(type(found), tuple)
        self.assertEqual(gone(ring(6), (0, 2), [(2, 3), (3, 4)]), (0, 4))
        self.assertEqual(gone(ring(6), (0, 3), [(3, 4), (0, 1), (4, 5)]), (1, 5))

    def test_marks_rise_when_one_goes_past_the_numbers_of_others(self):
        self.assertEqual(gone(star(4), (1,), [(1, 0), (0, 3), (3, 0), (0, 2)]), (2,))
        self.assertEqual(gone(SPIDER, (2, 5, 8), [(8, 7), (7, 6), (6, 9)]), (2, 5, 9))
        self.assertEqual(gone(SPIDER, (1, 5, 9), [(9, 3)]), (1, 3, 5))

    def test_every_pair_that_is_no_slide(self):
        for name in ("road", "star", "grid", "two stars"):
            web = SMALLER[name]
            for size in (0, 1, 2):
                for marks, out in own_steps(web, size).items():
                    for one in range(-1, web[0] + 1):
                        for other in range(-1, web[0] + 1):
                            if (one, other) not in out:
                                with self.assertRaises(BadSlide, msg=(name, marks, one, other)):
                                    gone(web, marks, [(one, other)])

    def test_no_slides_written_out(self):
        none = {
            "not marked": (2, 3),
            "along no line": (0, 5),
            "to itself": (0, 0),
            "next to another": (4, 3),
            "onto another": (0, 2),
            "turned round": (1, 0),
            "from below 0": (-1, 0),
            "to below 0": (0, -1),
            "beyond": (4, 6),
            "15 figures from": (FIFTEEN, 0),
            "15 figures to": (0, FIFTEEN),
            "15 figures below 0": (0, -FIFTEEN),
            "one spot alone": (0,),
            "three spots": (0, 1, 2),
        }
        for name, slide in none.items():
            with self.subTest(name):
                with self.assertRaises(BadSlide):
                    gone(road(6), (0, 2, 4), [slide])

    def test_none_then(self):
        self.assertEqual(slides(road(5), (0, 3)), [(0, 1), (3, 2), (3, 4)])
        cases = {
            "done already": [(0, 1), (0, 1)],
            "a slide at first, not behind another": [(0, 1), (3, 2)],
            "not at first, though behind it": [(1, 2), (0, 1)],
            "the last": [(3, 4), (0, 1), (1, 2), (2, 3)],
            "the first, good ones behind it": [(0, 2), (0, 1), (3, 4)],
        }
        for name, some in cases.items():
            with self.subTest(name):
                with self.assertRaises(BadSlide):
                    gone(road(5), (0, 3), some)
        self.assertEqual(gone(road(5), (0, 3), [(0, 1), (1, 0), (0, 1), (3, 4)]), (1, 4))


class Fewest(unittest.TestCase):
    def check(self, web, steps):
        for marks in steps:
            ways = own_ways(steps, marks)
            for goal in steps:
                self.assertEqual(fewest(web, marks, goal), ways.get(goal), (web, marks, goal))

    def test_against_all_sets(self):
        for name, web, size, steps in with_steps(SMALLER):
            with self.subTest(name, size=size):
                self.check(web, steps)

    def test_against_all_sets_of_every_small_web(self):
        for web, size, steps in small_with_steps():
            self.check(web, steps)

    def test_against_all_sets_of_larger_webs(self):
        for name, web in LARGER.items():
            for size in (2, 4):
                steps = own_steps(web, size)
                for marks in list(steps)[::31]:
                    ways = own_ways(steps, marks)
                    for goal in list(steps)[::17]:
                        self.assertEqual(fewest(web, marks, goal), ways.get(goal), (name, marks, goal))

    def test_least_of_all_lists_that_long(self):
        for name in ("road", "even ring", "odd ring", "grid", "twisted"):
            web = SMALLER[name]
            steps = own_steps(web, 2)
            for marks in list(steps)[::2]:
                least = {}
                for length in range(5):
                    found = {}
                    for way, end in all_lists(steps, marks, length):
                        found.setdefault(end, []).append(way)
                    for end in found:
                        least.setdefault(end, min(found[end]))
                for goal, way in least.items():
                    self.assertEqual(fewest(web, marks, goal), way, (name, marks, goal))

    def test_every_way_leads_there(self):
        for web in (COMB, SPIDER, ring(12), grid(4, 3)):
            sets = own_sets(web, 3)
            for goal in sets[::5]:
                way = fewest(web, sets[0], goal)
                if way is not None:
                    self.assertEqual(gone(web, sets[0], way), goal)

    def test_of_several_the_first(self):
        self.assertEqual(fewest(ring(4), (0,), (2,)), [(0, 1), (1, 2)])
        self.assertEqual(fewest(ring(4), (2,), (0,)), [(2, 1), (1, 0)])
        self.assertEqual(fewest(ring(6), (5,), (2,)), [(5, 0), (0, 1), (1, 2)])
        self.assertEqual(fewest(road(6), (0, 3), (1, 4)), [(0, 1), (3, 4)])
        self.assertEqual(fewest(road(6), (0, 2), (1, 3)), [(2, 3), (0, 1)])
        self.assertEqual(fewest(halves(3, 3), (5,), (4,)), [(5, 0), (0, 4)])

    def test_the_same_marks(self):
        for web, marks in ((bare(1), ()), (bare(1), (0,)), (road(12), ()), (road(12), (0, 5)), (ring(4), (0, 2))):
            with self.subTest(web, marks=marks):
                found = fewest(web, marks, marks)
                self.assertIs(type(found), list)
                self.assertEqual(found, [])

    def test_none(self):
        self.assertIsNone(fewest(ring(4), (0, 2), (1, 3)))
        self.assertIsNone(fewest(bare(2), (0,), (1,)))
        self.assertIsNone(fewest(star(5), (1, 2), (3, 4)))
        self.assertIsNone(fewest(beside(road(3), road(3)), (0,), (3,)))


class Room(unittest.TestCase):
    def test_against_all_sets(self):
        for name, web, size, steps in with_steps(SMALLER):
            with self.subTest(name, size=size):
                for own in own_rooms(steps):
                    for marks in own:
                        found = room(web, marks)
                        self.assertIs(type(found), list)
                        self.assertEqual(found, own)

    def test_against_all_sets_of_every_small_web(self):
        for web, size, steps in small_with_steps():
            for own in own_rooms(steps):
                for marks in own:
                    self.assertEqual(room(web, marks), own, (web, marks))

    def test_written_out(self):
        self.assertEqual(room(road(4), (0,)), [(0,), (1,), (2,), (3,)])
        self.assertEqual(room(road(4), (0, 2)), [(0, 2), (0, 3), (1, 3)])
        self.assertEqual(room(beside(road(2), road(3)), (3,)), [(2,), (3,), (4,)])

    def test_marks_that_no_slide_moves(self):
        for web, marks in ((bare(1), (0,)), (ring(4), (0, 2)), (star(5), (1, 2)), (bare(12), tuple(range(12)))):
            with self.subTest(web, marks=marks):
                self.assertEqual(room(web, marks), [marks])

    def test_no_marks(self):
        self.assertEqual(room(bare(1), ()), [()])
        self.assertEqual(room(ring(12), ()), [()])


class Rooms(unittest.TestCase):
    def test_against_all_sets(self):
        for name, web, size, steps in with_steps(SMALLER):
            with self.subTest(name, size=size):
                found = rooms(web, size)
                self.assertEqual(found, own_rooms(steps))
                self.assertIs(type(found), list)
                for own in found:
                    self.assertIs(type(own), list)

    def test_against_all_sets_of_every_small_web(self):
        for web, size, steps in small_with_steps():
            self.assertEqual(rooms(web, size), own_rooms(steps), (web, size))

    def test_larger_webs(self):
        for name, web in LARGER.items():
            for size in (2, 3, 5):
                with self.subTest(name, size=size):
                    self.assertEqual(rooms(web, size), own_rooms(own_steps(web, size)))

    def test_by_their_first_marks(self):
        self.assertEqual(rooms(ring(4), 2), [[(0, 2)], [(1, 3)]])
        self.assertEqual(rooms((4, [(0, 3), (1, 2)]), 1), [[(0,), (3,)], [(1,), (2,)]])
        self.assertEqual(rooms(bare(3), 1), [[(0,)], [(1,)], [(2,)]])

    def test_size_0(self):
        self.assertEqual(rooms(bare(1), 0), [[()]])
        self.assertEqual(rooms(full(12), 0), [[()]])

    def test_a_size_larger_than_any_marks(self):
        self.assertEqual(rooms(full(12), 2), [])
        self.assertEqual(rooms(road(5), 4), [])
        self.assertEqual(rooms(bare(12), 13), [])
        self.assertEqual(rooms(bare(12), FIFTEEN), [])

    def test_no_marks_have_a_size_below_0(self):
        self.assertEqual(rooms(road(5), -1), [])
        self.assertEqual(rooms(road(5), -FIFTEEN), [])


class Bars(unittest.TestCase):
    def setUp(self):
        # Two roads of three: a mark stays on its own.
        self.web = beside(road(3), road(3))
        self.marks = (0, 3)
        self.goal = (0, 2)
        self.own = [(one, other) for one in range(3) for other in range(3, 6)]

    def ask(self, some):
        return bars(self.web, self.marks, self.goal, some)

    def test_the_room_bars(self):
        self.assertEqual(room(self.web, self.marks), self.own)
        self.assertIs(self.ask(self.own), True)

    def test_in_any_order_and_twice(self):
        self.assertIs(self.ask(self.own[::-1]), True)
        self.assertIs(self.ask(self.own[4:] + self.own[:4]), True)
        self.assertIs(self.ask(self.own + self.own), True)

    def test_with_another_whole_room(self):
        self.assertIs(self.ask(self.own + [(3, 5)]), True)
        self.assertIs(self.ask([(3, 5)] + self.own), True)

    def test_with_whole_rooms_of_other_sizes(self):
        self.assertIs(self.ask(self.own + [()]), True)
        self.assertIs(self.ask([(3,), (4,), (5,)] + self.own), True)
        self.assertIs(self.ask([(3,), (5,)] + self.own), False)

    def test_the_one_left_out(self):
        self.assertIs(self.ask([]), False)
        self.assertIs(self.ask([(3, 5)]), False)
        self.assertIs(self.ask([()]), False)
        self.assertIs(self.ask([marks for marks in self.own if marks != self.marks]), False)
        # All that is left is a whole room, so nothing is missing but the one.
        self.assertIs(bars(bare(3), (0,), (1,), [(2,)]), False)

    def test_the_other_put_in(self):
        self.assertIs(self.ask(self.own + [self.goal]), False)
        self.assertIs(self.ask([self.goal] + self.own), False)
        self.assertIs(bars(bare(3), (0,), (1,), [(0,)]), True)
        self.assertIs(bars(bare(3), (0,), (1,), [(0,), (1,)]), False)

    def test_any_one_left_out(self):
        for marks in self.own:
            with self.subTest(marks):
                self.assertIs(self.ask([own for own in self.own if own != marks]), False)

    def test_another_room_in_part(self):
        web = beside(road(2), road(2))
        self.assertIs(bars(web, (0,), (2,), [(0,), (1,)]), True)
        web = beside(web, road(2))
        self.assertIs(bars(web, (0,), (2,), [(0,), (1,), (4,), (5,)]), True)
        self.assertIs(bars(web, (0,), (2,), [(0,), (1,), (5,)]), False)
        self.assertIs(bars(web, (0,), (2,), [(4,), (0,), (1,)]), False)

    def test_what_are_no_marks_put_in(self):
        spoilt = [(0, 1), (3, 0), (0, 0), (0, 6), (-1, 3), (6,), (-1,), (0, FIFTEEN), (-FIFTEEN, 0), (1, 0, 4)]
        for marks in spoilt:
            with self.subTest(marks):
                self.assertIs(self.ask(self.own + [marks]), False)
                self.assertIs(self.ask([marks] + self.own), False)

    def test_every_spoilt_marks_put_in(self):
        web = beside(road(4), bare(2))
        self.assertIs(bars(web, (4,), (5,), [(4,)]), True)
        for name, marks in SPOILT_MARKS.items():
            with self.subTest(name):
                self.assertIs(bars(web, (4,), (5,), [(4,), marks]), False)
                self.assertIs(bars(web, (4,), (5,), [marks, (4,)]), False)

    def test_nothing_bars_the_way_to_the_same_marks(self):
        self.assertIs(bars(bare(2), (0,), (0,), [(0,)]), False)
        self.assertIs(bars(bare(2), (), (), [()]), False)
        self.assertIs(bars(bare(2), (0,), (0,), []), False)

    def test_every_list_of_marks_of_small_webs(self):
        for web in (bare(4), beside(road(2), road(2)), beside(bare(1), road(3)), ring(4), road(4)):
            for size in (1, 2):
                steps = own_steps(web, size)
                sets = list(steps)
                for chosen in range(2 ** len(sets)):
                    some = [marks for place, marks in enumerate(sets) if chosen >> place & 1]
                    closed = all(there in some for here in some for there in steps[here].values())
                    for marks in sets:
                        for goal in sets:
                            asked = closed and marks in some and goal not in some
                            self.assertIs(bars(web, marks, goal, some), asked, (web, marks, goal, some))


class Told(unittest.TestCase):
    def test_a_way_or_a_room_that_bars_it(self):
        for name, web, size, steps in with_steps(SMALLER):
            with self.subTest(name, size=size):
                for marks in steps:
                    ways = own_ways(steps, marks)
                    for goal in list(steps)[::3]:
                        found = told(web, marks, goal)
                        self.assertIs(type(found), tuple)
                        if goal in ways:
                            self.assertEqual(found, ("way", ways[goal]))
                        else:
                            self.assertEqual(found, ("room", sorted(ways)))
                            self.assertIs(bars(web, marks, goal, found[1]), True)

    def test_every_small_web(self):
        for web, size, steps in small_with_steps():
            for marks in steps:
                ways = own_ways(steps, marks)
                for goal in steps:
                    asked = ("way", ways[goal]) if goal in ways else ("room", sorted(ways))
                    self.assertEqual(told(web, marks, goal), asked, (web, marks, goal))

    def test_written_out(self):
        self.assertEqual(told(road(3), (0,), (2,)), ("way", [(0, 1), (1, 2)]))
        self.assertEqual(told(ring(4), (0, 2), (1, 3)), ("room", [(0, 2)]))
        self.assertEqual(told(beside(road(3), road(2)), (4,), (0,)), ("room", [(3,), (4,)]))

    def test_the_same_marks(self):
        self.assertEqual(told(bare(1), (), ()), ("way", []))
        self.assertEqual(told(ring(4), (0, 2), (0, 2)), ("way", []))


class Refusals(unittest.TestCase):
    """Which error comes, and which comes first where several are due."""

    def asks(self, web, marks, goal, some):
        """Each function that takes a web and marks, marks as the one and as the other."""
        return {
            "slides": lambda: slides(web, marks),
            "gone": lambda: gone(web, marks, some),
            "room": lambda: room(web, marks),
            "fewest from": lambda: fewest(web, marks, goal),
            "fewest to": lambda: fewest(web, goal, marks),
            "told from": lambda: told(web, marks, goal),
            "told to": lambda: told(web, goal, marks),
            "bars from": lambda: bars(web, marks, goal, some),
            "bars to": lambda: bars(web, goal, marks, some),
        }

    def refused(self, error, web, marks, goal, some):
        for name, ask in self.asks(web, marks, goal, some).items():
            with self.subTest(name, web=web, marks=marks, goal=goal, some=some):
                with self.assertRaises(error):
                    ask()

    def test_spoilt_webs(self):
        for web in SPOILT_WEBS.values():
            self.refused(BadWeb, web, (), (), [])
            self.refused(BadWeb, web, (0,), (0,), [])

    def test_spoilt_webs_of_rooms(self):
        for name, web in SPOILT_WEBS.items():
            for size in (-1, 0, 1, FIFTEEN):
                with self.subTest(name, size=size):
                    with self.assertRaises(BadWeb):
                        rooms(web, size)

    def test_spoilt_marks(self):
        for marks in SPOILT_MARKS.values():
            for goal in [(), (0,), (0, 2), (0, 2, 4)]:
                self.refused(BadMarks, road(6), marks, goal, [])

    def test_bad_web_ahead_of_bad_marks(self):
        for marks in SPOILT_MARKS.values():
            self.refused(BadWeb, (13, []), marks, marks, [(0, 0)])
            self.refused(BadWeb, (6, [(1, 0)]), marks, (), [(0, 0)])

    def test_bad_web_ahead_of_unlike(self):
        for web in SPOILT_WEBS.values():
            for ask in (fewest, told):
                with self.subTest(web):
                    with self.assertRaises(BadWeb):
                        ask(web, (), (0,))
            with self.assertRaises(BadWeb):
                bars(web, (), (0,), [()])

    def test_bad_marks_ahead_of_bad_slide(self):
        for marks in SPOILT_MARKS.values():
            with self.assertRaises(BadMarks):
                gone(road(6), marks, [(FIFTEEN, 0)])

    def test_bad_web_ahead_of_bad_slide(self):
        for web in SPOILT_WEBS.values():
            with self.assertRaises(BadWeb):
                gone(web, (), [(0, 1)])

    def test_unlike(self):
        cases = [((), (0,)), ((0,), (0, 2)), ((0, 2, 4), (0, 2)), ((0, 2, 4), ())]
        for marks, goal in cases:
            for one, other in ((marks, goal), (goal, marks)):
                with self.subTest(one=one, other=other):
                    with self.assertRaises(Unlike):
                        fewest(road(6), one, other)
                    with self.assertRaises(Unlike):
                        told(road(6), one, other)
                    for some in ([], [one], [other], [one, other], [(0, 1)]):
                        with self.assertRaises(Unlike):
                            bars(road(6), one, other, some)


if __name__ == "__main__":
    unittest.main()
