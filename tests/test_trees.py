import inspect
import unittest

from markslide import trees
from markslide.errors import BadMarks, BadWeb, NoTree, Unlike
from markslide.trees import free_parts, stiff, tree_told
from tests.helper import (
    COMB,
    FIFTEEN,
    SPIDER,
    SPOILT_MARKS,
    SPOILT_WEBS,
    bare,
    beside,
    every_tree,
    full,
    grid,
    halves,
    own_sets,
    own_walks,
    ring,
    road,
    shuffled,
    star,
    tree_shapes,
)

# The spot 2 has the leaves 0 and 1, which hold each other when both are marked, and two roads: 3-4-5 and 6-7-8.
FORK = (9, [(0, 2), (1, 2), (2, 3), (2, 6), (3, 4), (4, 5), (6, 7), (7, 8)])
# As the fork, with the numbers turned round.
TURNED = (9, [(0, 1), (1, 2), (2, 6), (3, 4), (4, 5), (5, 6), (6, 7), (6, 8)])
# As the fork, with the roads 3-4-5-6 and 7-8-9-10-11.
LONG = (12, [(0, 2), (1, 2), (2, 3), (2, 7), (3, 4), (4, 5), (5, 6), (7, 8), (8, 9), (9, 10), (10, 11)])
# Two stars, 0 with 1, 2, 3 and 8 with 9, 10, 11, joined by the road 0-4-5-6-7-8.
BONE = (12, [(0, 1), (0, 2), (0, 3), (0, 4), (4, 5), (5, 6), (6, 7), (7, 8), (8, 9), (8, 10), (8, 11)])

NO_TREES = {
    "two bare spots": bare(2),
    "12 bare spots": bare(12),
    "ring of three": ring(3),
    "ring of 12": ring(12),
    "full": full(4),
    "grid": grid(4, 3),
    "halves": halves(2, 3),
    "two roads": beside(road(3), road(3)),
    "ring beside a road": beside(ring(3), road(3)),
    "as many lines as a tree, with a ring": beside(ring(3), bare(1)),
    "a bare spot first": beside(bare(1), ring(5)),
    "a road and a spot": beside(road(11), bare(1)),
    "a ring with a leaf": (5, [(0, 1), (0, 3), (1, 2), (2, 3), (3, 4)]),
}


def own_stiff(walk, count):
    """The spots that all marks of the room have, and that no slide of the room takes away."""
    held = [spot for spot in range(count) if all(spot in marks for marks in walk)]
    taken = {slide[0] for steps in walk.values() for slide in steps}
    return tuple(spot for spot in held if spot not in taken)


def own_parts(web, marks, held):
    """The free parts, by merging the ends of each line between free spots."""
    shut = set(held)
    for line in web[1]:
        if set(line) & set(held):
            shut |= set(line)
    parts = [{spot} for spot in range(web[0]) if spot not in shut]
    for line in web[1]:
        joined = [part for part in parts if part & set(line)]
        if len(joined) == 2 and not set(line) & shut:
            parts = [part for part in parts if part not in joined] + [joined[0] | joined[1]]
    return sorted((sorted(part), len(part & set(marks))) for part in parts)


class Interface(unittest.TestCase):
    def test_arguments(self):
        asked = {
            "stiff": ["web", "marks"],
            "free_parts": ["web", "marks"],
            "tree_told": ["web", "marks", "goal"],
        }
        for name, names in asked.items():
            with self.subTest(name):
                self.assertEqual(list(inspect.signature(getattr(trees, name)).parameters), names)

    def test_kinds(self):
        for web, marks in ((bare(1), ()), (bare(1), (0,)), (road(5), (0, 2, 4)), (FORK, (0, 1, 4)), (BONE, ())):
            with self.subTest(web, marks=marks):
                self.assertIs(type(stiff(web, marks)), tuple)
                parts = free_parts(web, marks)
                self.assertIs(type(parts), list)
                for part in parts:
                    self.assertIs(type(part), tuple)
                    self.assertEqual([type(half) for half in part], [list, int])
                self.assertIs(tree_told(web, marks, marks), True)


class AgainstTheWholeRoom(unittest.TestCase):
    def check(self, web):
        """Stiff ones and free parts of all marks; and that two rooms never have both alike."""
        known = {}
        for walk in own_walks(web):
            held = own_stiff(walk, web[0])
            for marks in walk:
                parts = free_parts(web, marks)
                self.assertEqual(stiff(web, marks), held, (web, marks))
                self.assertEqual(parts, own_parts(web, marks, held), (web, marks))
                key = (len(marks), held, repr(parts))
                self.assertIs(known.setdefault(key, walk), walk, (web, marks))

    def check_pairs(self, web, step=1):
        """Some pairs: of every so many rooms the last marks, with every so many marks."""
        for own in own_walks(web)[::step]:
            marks = max(own)
            for goal in own_sets(web, len(marks))[::step]:
                self.assertIs(tree_told(web, marks, goal), goal in own, (web, marks, goal))
                self.assertIs(tree_told(web, goal, marks), goal in own, (web, goal, marks))

    def check_all_pairs(self, web):
        for own in own_walks(web):
            for marks in own:
                for goal in own_sets(web, len(marks)):
                    self.assertIs(tree_told(web, marks, goal), goal in own, (web, marks, goal))

    def test_every_tree_of_up_to_five_spots(self):
        for count in range(1, 6):
            found = every_tree(count)
            self.assertEqual(len(set(map(repr, found))), {1: 1, 2: 1, 3: 3, 4: 16, 5: 125}[count])
            for web in found:
                self.check(web)
                self.check_all_pairs(web)

    def test_trees_of_six_spots(self):
        for web in every_tree(6)[::7]:
            self.check(web)
            self.check_pairs(web)

    def test_roads_and_stars_of_each_size(self):
        for count in range(1, 13):
            for web in (road(count), star(count), shuffled(road(count)), shuffled(star(count))):
                with self.subTest(web):
                    self.check(web)
                    self.check_pairs(web, 11)

    def test_every_shape_of_up_to_eight_spots(self):
        for count, some in tree_shapes(8).items():
            self.assertEqual(len(some), (1, 1, 1, 2, 3, 6, 11, 23)[count - 1])
            for web in some:
                self.check(shuffled(web))
                self.check_all_pairs(shuffled(web))

    def test_shapes_of_more_spots(self):
        shapes = tree_shapes(12)
        for count, step in ((9, 1), (10, 5), (11, 20), (12, 80)):
            for web in shapes[count][::step]:
                with self.subTest(web):
                    self.check(web)
                    self.check(shuffled(web))
                    self.check_pairs(shuffled(web), 23)

    def test_bushes(self):
        for web in (COMB, SPIDER, FORK, TURNED, LONG, BONE, shuffled(COMB), shuffled(BONE)):
            with self.subTest(web):
                self.check(web)
                self.check_pairs(web, 7)


class Stiff(unittest.TestCase):
    def test_written_out(self):
        self.assertEqual(stiff(road(3), (0, 2)), (0, 2))
        self.assertEqual(stiff(road(5), (0, 2, 4)), (0, 2, 4))
        self.assertEqual(stiff(road(5), (0, 2)), ())
        self.assertEqual(stiff(road(7), (0, 2, 4)), ())
        self.assertEqual(stiff(star(5), (1, 3)), (1, 3))
        self.assertEqual(stiff(FORK, (0, 1, 4)), (0, 1))
        self.assertEqual(stiff(FORK, (0, 3, 5)), (0, 3, 5))
        self.assertEqual(stiff(FORK, (0, 4)), ())
        self.assertEqual(stiff(TURNED, (4, 7, 8)), (7, 8))
        self.assertEqual(stiff(BONE, (1, 2, 5, 9)), (1, 2))
        self.assertEqual(stiff(BONE, (1, 2, 5, 9, 10)), (1, 2, 9, 10))
        self.assertEqual(stiff(BONE, (1, 2, 4, 9, 11)), (1, 2, 9, 11))
        self.assertEqual(stiff(BONE, (1, 4, 6, 9)), ())

    def test_a_mark_that_cannot_slide_now_may_slide_later(self):
        # The mark on 0 waits until the one on 2 is gone.
        self.assertEqual(stiff(road(4), (0, 2)), ())
        # The marks on 0, 2 and 4 wait for each other, down to the last.
        self.assertEqual(stiff(road(6), (0, 2, 4)), ())
        self.assertEqual(stiff(road(12), (0, 2, 4, 6, 8, 10)), ())
        self.assertEqual(stiff(road(11), (0, 2, 4, 6, 8, 10)), (0, 2, 4, 6, 8, 10))

    def test_one_spot(self):
        self.assertEqual(stiff(bare(1), ()), ())
        self.assertEqual(stiff(bare(1), (0,)), (0,))

    def test_no_marks(self):
        for web in (road(2), road(12), star(12), COMB, SPIDER, BONE):
            self.assertEqual(stiff(web, ()), ())

    def test_one_mark_moves_where_there_is_a_line(self):
        for web in (road(2), road(12), star(12), COMB, SPIDER, BONE):
            for spot in range(web[0]):
                self.assertEqual(stiff(web, (spot,)), ())

    def test_all_leaves_of_a_star_of_12(self):
        self.assertEqual(stiff(star(12), tuple(range(1, 12))), tuple(range(1, 12)))


class FreeParts(unittest.TestCase):
    def test_written_out(self):
        self.assertEqual(free_parts(road(5), (0, 2)), [([0, 1, 2, 3, 4], 2)])
        self.assertEqual(free_parts(FORK, (0, 1, 4)), [([3, 4, 5], 1), ([6, 7, 8], 0)])
        self.assertEqual(free_parts(FORK, (0, 1, 3, 7)), [([3, 4, 5], 1), ([6, 7, 8], 1)])
        self.assertEqual(free_parts(star(5), (1, 3)), [([2], 0), ([4], 0)])
        self.assertEqual(free_parts(BONE, (1, 2, 5, 9, 10)), [([3], 0), ([4, 5, 6, 7], 1), ([11], 0)])
        self.assertEqual(free_parts(BONE, (1, 2, 5, 9)), [([3], 0), ([4, 5, 6, 7, 8, 9, 10, 11], 2)])

    def test_by_their_first_spots(self):
        self.assertEqual(free_parts(TURNED, (4, 7, 8)), [([0, 1, 2], 0), ([3, 4, 5], 1)])
        # The arms 0-8-2 and 1-5-7 hang at the spot 3, whose leaves 4 and 6 are stiff.
        web = (9, [(0, 3), (0, 8), (1, 5), (2, 8), (3, 4), (3, 6), (3, 7), (5, 7)])
        self.assertEqual(free_parts(web, (2, 4, 6)), [([0, 2, 8], 1), ([1, 5, 7], 0)])
        self.assertEqual(free_parts(web, (4, 5, 6)), [([0, 2, 8], 0), ([1, 5, 7], 1)])

    def test_none(self):
        self.assertEqual(free_parts(bare(1), (0,)), [])
        self.assertEqual(free_parts(road(3), (0, 2)), [])
        self.assertEqual(free_parts(road(11), (0, 2, 4, 6, 8, 10)), [])
        self.assertEqual(free_parts(star(12), tuple(range(1, 12))), [])

    def test_nothing_stiff(self):
        self.assertEqual(free_parts(bare(1), ()), [([0], 0)])
        self.assertEqual(free_parts(road(12), ()), [(list(range(12)), 0)])
        self.assertEqual(free_parts(SPIDER, (0, 3)), [(list(range(10)), 2)])
        self.assertEqual(free_parts(star(12), (0,)), [(list(range(12)), 1)])


class TreeTold(unittest.TestCase):
    def both(self, web, marks, goal, asked):
        self.assertIs(tree_told(web, marks, goal), asked)
        self.assertIs(tree_told(web, goal, marks), asked)

    def test_one_room(self):
        self.both(road(5), (0, 2), (1, 4), True)
        self.both(road(12), (0, 2, 4, 6), (5, 7, 9, 11), True)
        self.both(FORK, (0, 1, 3), (0, 1, 5), True)
        self.both(FORK, (0, 1, 3, 6), (0, 1, 5, 8), True)
        self.both(BONE, (1, 2, 4, 9, 10), (1, 2, 7, 9, 10), True)

    def test_the_same(self):
        self.both(bare(1), (), (), True)
        self.both(bare(1), (0,), (0,), True)
        self.both(star(12), tuple(range(1, 12)), tuple(range(1, 12)), True)

    def test_two_stiff_marks_part_the_tree(self):
        self.both(FORK, (0, 1, 4), (0, 1, 7), False)
        self.both(TURNED, (1, 7, 8), (4, 7, 8), False)
        # With one of them alone nothing is parted.
        self.both(FORK, (0, 4), (0, 7), True)

    def test_the_stiff_ones_are_the_same_and_a_part_has_another_count(self):
        self.assertEqual(stiff(LONG, (0, 1, 3, 5, 7)), (0, 1))
        self.assertEqual(stiff(LONG, (0, 1, 3, 7, 9)), (0, 1))
        self.both(LONG, (0, 1, 3, 5, 7), (0, 1, 3, 7, 9), False)
        self.both(LONG, (0, 1, 3, 5), (0, 1, 7, 11), False)
        self.both(LONG, (0, 1, 3, 5), (0, 1, 4, 11), False)
        self.both(LONG, (0, 1, 3, 5, 7), (0, 1, 4, 6, 11), True)

    def test_the_counts_are_the_same_and_the_stiff_ones_are_others(self):
        one = free_parts(star(6), (1, 2))
        other = free_parts(star(6), (3, 4))
        self.assertEqual([part[1] for part in one], [part[1] for part in other])
        self.both(star(6), (1, 2), (3, 4), False)
        self.both(star(6), (1, 2), (1, 3), False)
        self.both(star(12), (1, 2, 3, 4, 5), (1, 2, 3, 4, 6), False)

    def test_something_stiff_and_nothing_stiff(self):
        self.assertEqual(stiff(FORK, (0, 7)), ())
        self.assertEqual(stiff(FORK, (0, 1)), (0, 1))
        self.both(FORK, (0, 1), (0, 7), False)


class Refusals(unittest.TestCase):
    """Which error comes, and which comes first where several are due."""

    def refused(self, error, web, marks, goal):
        asks = {
            "stiff": lambda: stiff(web, marks),
            "free_parts": lambda: free_parts(web, marks),
            "tree_told from": lambda: tree_told(web, marks, goal),
            "tree_told to": lambda: tree_told(web, goal, marks),
        }
        for name, ask in asks.items():
            with self.subTest(name, web=web, marks=marks, goal=goal):
                with self.assertRaises(error):
                    ask()

    def test_no_tree(self):
        for web in NO_TREES.values():
            for size in (0, 1):
                for marks in own_sets(web, size):
                    self.refused(NoTree, web, marks, marks)
        self.refused(NoTree, bare(2), (0,), (1,))
        self.refused(NoTree, ring(4), (0, 2), (1, 3))

    def test_spoilt_webs(self):
        for web in SPOILT_WEBS.values():
            for marks in ((), (0,), (1, 0), (FIFTEEN,)):
                self.refused(BadWeb, web, marks, marks)
                self.refused(BadWeb, web, marks, ())

    def test_spoilt_marks(self):
        for marks in SPOILT_MARKS.values():
            for goal in ((), (0,), (0, 2), (0, 2, 4)):
                self.refused(BadMarks, road(6), marks, goal)

    def test_spoilt_web_ahead_of_spoilt_marks(self):
        for marks in SPOILT_MARKS.values():
            self.refused(BadWeb, (13, []), marks, (0,))
            self.refused(BadWeb, (6, [(1, 0)]), marks, marks)

    def test_spoilt_marks_ahead_of_no_tree(self):
        for marks in SPOILT_MARKS.values():
            for goal in ((), (0,), (0, 2), (0, 2, 4)):
                self.refused(BadMarks, ring(6), marks, goal)
        for marks in ((0, 1), (1, 0), (2, 2), (6,), (-1,), (FIFTEEN,)):
            self.refused(BadMarks, beside(road(3), road(3)), marks, (0,))
            self.refused(BadMarks, beside(ring(3), road(3)), marks, (0, 3))

    def test_unlike(self):
        for web in (road(6), COMB, star(6)):
            for marks in ((), (1,), (1, 3), (1, 3, 5)):
                for goal in ((), (1,), (1, 3), (1, 3, 5)):
                    if len(marks) != len(goal):
                        with self.assertRaises(Unlike, msg=(web, marks, goal)):
                            tree_told(web, marks, goal)

    def test_unlike_ahead_of_no_tree(self):
        for name, web in NO_TREES.items():
            for marks, goal in (((), (0,)), ((0,), ()), ((1,), ())):
                with self.subTest(name, marks=marks):
                    with self.assertRaises(Unlike):
                        tree_told(web, marks, goal)


if __name__ == "__main__":
    unittest.main()
