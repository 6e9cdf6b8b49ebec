import inspect
import unittest

from markslide import webs
from markslide.errors import BadMarks, BadWeb
from markslide.webs import all_marks, is_tree, look_marks, look_web
from tests.helper import (
    COMB,
    FIFTEEN,
    LARGER,
    SMALLER,
    SPIDER,
    SPOILT_MARKS,
    SPOILT_WEBS,
    bare,
    beside,
    every_web,
    full,
    grid,
    halves,
    own_sets,
    ring,
    road,
    small_webs,
    star,
)


class Interface(unittest.TestCase):
    def test_arguments(self):
        asked = {
            "look_web": ["web"],
            "look_marks": ["web", "marks"],
            "all_marks": ["web", "size"],
            "is_tree": ["web"],
        }
        for name, names in asked.items():
            with self.subTest(name):
                self.assertEqual(list(inspect.signature(getattr(webs, name)).parameters), names)


class LookWeb(unittest.TestCase):
    def test_webs_pass(self):
        for name, web in list(SMALLER.items()) + list(LARGER.items()):
            with self.subTest(name):
                self.assertIsNone(look_web(web))

    def test_every_small_web_passes(self):
        for web in small_webs():
            self.assertIsNone(look_web(web))

    def test_every_count_from_1_to_12_passes(self):
        for count in range(1, 13):
            for web in (bare(count), road(count), star(count), full(count)):
                with self.subTest(web):
                    self.assertIsNone(look_web(web))

    def test_spoilt_webs(self):
        for name, web in SPOILT_WEBS.items():
            with self.subTest(name):
                with self.assertRaises(BadWeb):
                    look_web(web)

    def test_any_two_lines_out_of_turn(self):
        good = grid(3, 2)
        for place in range(1, len(good[1])):
            lines = list(good[1])
            lines[place - 1], lines[place] = lines[place], lines[place - 1]
            with self.subTest(place):
                with self.assertRaises(BadWeb):
                    look_web((good[0], lines))

    def test_any_line_twice(self):
        good = grid(3, 2)
        for place, line in enumerate(good[1]):
            with self.subTest(place):
                with self.assertRaises(BadWeb):
                    look_web((good[0], good[1][:place] + [line] + good[1][place:]))

    def test_any_line_turned_or_of_another_length(self):
        good = grid(3, 2)
        for place, line in enumerate(good[1]):
            for spoilt in (line[::-1], line[:1], line[1:], line + (5,), (), (line[0], line[0])):
                with self.subTest(spoilt):
                    with self.assertRaises(BadWeb):
                        look_web((good[0], good[1][:place] + [spoilt] + good[1][place + 1:]))

    def test_a_web_of_another_length(self):
        for web in ((), (3,), (3, [], [])):
            with self.subTest(web):
                with self.assertRaises(BadWeb):
                    look_web(web)


class LookMarks(unittest.TestCase):
    def test_marks_are_the_sets_without_a_line(self):
        for name, web in SMALLER.items():
            for size in range(web[0] + 1):
                for marks in own_sets(web, size):
                    with self.subTest(name, marks=marks):
                        self.assertIsNone(look_marks(web, marks))

    def test_no_marks_pass(self):
        self.assertIsNone(look_marks(bare(1), ()))
        self.assertIsNone(look_marks(full(12), ()))

    def test_the_first_and_the_last_spot_pass(self):
        self.assertIsNone(look_marks(bare(1), (0,)))
        self.assertIsNone(look_marks(road(12), (0, 11)))
        self.assertIsNone(look_marks(bare(12), tuple(range(12))))

    def test_any_two_ends_of_a_line(self):
        for name, web in SMALLER.items():
            for line in web[1]:
                with self.subTest(name, line=line):
                    with self.assertRaises(BadMarks):
                        look_marks(web, line)

    def test_spoilt_marks(self):
        for name, marks in SPOILT_MARKS.items():
            with self.subTest(name):
                with self.assertRaises(BadMarks):
                    look_marks(road(6), marks)

    def test_spoilt_marks_without_lines(self):
        for marks in ((1, 0), (1, 1), (3,), (-1,), (0, 1, 2, 3), (FIFTEEN,)):
            with self.subTest(marks):
                with self.assertRaises(BadMarks):
                    look_marks(bare(3), marks)

    def test_bad_web_comes_first(self):
        for name, web in SPOILT_WEBS.items():
            for marks in ((), (0,), (1, 0), (0, 0), (-1,), (FIFTEEN,)):
                with self.subTest(name, marks=marks):
                    with self.assertRaises(BadWeb):
                        look_marks(web, marks)


class AllMarks(unittest.TestCase):
    def check(self, web):
        for size in range(web[0] + 2):
            found = all_marks(web, size)
            self.assertIs(type(found), list)
            self.assertEqual(found, own_sets(web, size))

    def test_each_size_of_webs(self):
        for name, web in list(SMALLER.items()) + list(LARGER.items()):
            with self.subTest(name):
                self.check(web)

    def test_each_size_of_every_small_web(self):
        for web in small_webs():
            with self.subTest(web):
                self.check(web)

    def test_written_out(self):
        self.assertEqual(all_marks(road(4), 2), [(0, 2), (0, 3), (1, 3)])
        self.assertEqual(all_marks(ring(4), 2), [(0, 2), (1, 3)])
        self.assertEqual(all_marks(bare(3), 2), [(0, 1), (0, 2), (1, 2)])

    def test_size_0_is_the_one_empty_tuple(self):
        for web in (bare(1), bare(12), full(12), road(5)):
            self.assertEqual(all_marks(web, 0), [()])

    def test_a_size_larger_than_any_marks(self):
        self.assertEqual(all_marks(full(12), 2), [])
        self.assertEqual(all_marks(road(5), 4), [])
        self.assertEqual(all_marks(bare(12), 13), [])
        self.assertEqual(all_marks(bare(1), FIFTEEN), [])
        self.assertEqual(all_marks(bare(12), FIFTEEN), [])

    def test_no_marks_have_a_size_below_0(self):
        self.assertEqual(all_marks(road(4), -1), [])
        self.assertEqual(all_marks(road(4), -FIFTEEN), [])

    def test_spoilt_webs(self):
        for name, web in SPOILT_WEBS.items():
            for size in (-1, 0, 1, FIFTEEN):
                with self.subTest(name, size=size):
                    with self.assertRaises(BadWeb):
                        all_marks(web, size)


def own_is_tree(web):
    """A tree: each line added joins two parts that hung not together, and one part is left."""
    parts = [{spot} for spot in range(web[0])]
    for one, other in web[1]:
        ends = [part for part in parts if one in part or other in part]
        if len(ends) == 1:
            return False
        parts = [part for part in parts if part not in ends] + [ends[0] | ends[1]]
    return len(parts) == 1


class IsTree(unittest.TestCase):
    def test_trees(self):
        for web in (bare(1), road(2), road(12), star(12), COMB, SPIDER):
            with self.subTest(web):
                self.assertIs(is_tree(web), True)

    def test_others(self):
        others = (
            bare(2),
            bare(12),
            ring(3),
            ring(12),
            full(4),
            grid(4, 3),
            halves(2, 2),
            beside(road(3), road(3)),
            beside(ring(4), road(2)),
            beside(ring(3), bare(1)),
            beside(bare(1), ring(3)),
            beside(ring(11), bare(1)),
        )
        for web in others:
            with self.subTest(web):
                self.assertIs(is_tree(web), False)

    def test_every_web_of_up_to_five_spots(self):
        for count in range(1, 6):
            for web in every_web(count):
                self.assertIs(is_tree(web), own_is_tree(web), web)

    def test_a_tree_without_any_one_line_or_with_one_more(self):
        for name, web in (("road", road(12)), ("comb", COMB), ("spider", SPIDER)):
            for place in range(len(web[1])):
                with self.subTest(name, place=place):
                    self.assertIs(is_tree((web[0], web[1][:place] + web[1][place + 1:])), False)
            for line in full(web[0])[1]:
                if line not in web[1]:
                    with self.subTest(name, line=line):
                        self.assertIs(is_tree((web[0], sorted(web[1] + [line]))), False)

    def test_spoilt_webs(self):
        for name, web in SPOILT_WEBS.items():
            with self.subTest(name):
                with self.assertRaises(BadWeb):
                    is_tree(web)


if __name__ == "__main__":
    unittest.main()
