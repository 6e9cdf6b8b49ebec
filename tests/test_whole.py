"""Nothing that is handed in is changed or kept, and lists that are told are new ones."""

import copy
import unittest

from markslide.errors import SlideError
from markslide.slides import bars, fewest, gone, room, rooms, slides, told
from markslide.webs import all_marks, is_tree, look_marks, look_web
from tests.helper import SPOILT_WEBS, beside, grid, ring, road

CASES = [
    (road(6), (0, 2), (3, 5)),
    (ring(6), (0, 2), (1, 4)),
    (ring(4), (0, 2), (1, 3)),
    (grid(3, 2), (0, 2), (3, 5)),
    (beside(road(3), road(3)), (0, 3), (0, 2)),
]


def asks(web, marks, goal, way, some):
    return {
        "look_web": lambda: look_web(web),
        "look_marks": lambda: look_marks(web, marks),
        "all_marks": lambda: all_marks(web, 2),
        "all_marks of 0": lambda: all_marks(web, 0),
        "is_tree": lambda: is_tree(web),
        "slides": lambda: slides(web, marks),
        "gone": lambda: gone(web, marks, way),
        "fewest": lambda: fewest(web, marks, goal),
        "fewest to the same": lambda: fewest(web, marks, marks),
        "room": lambda: room(web, marks),
        "rooms": lambda: rooms(web, 2),
        "bars": lambda: bars(web, marks, goal, some),
        "told": lambda: told(web, marks, goal),
        "told to the same": lambda: told(web, marks, marks),
    }


def spoil(value):
    """Changes every list within a told value."""
    if isinstance(value, (list, tuple)):
        for part in value:
            spoil(part)
    if isinstance(value, list):
        value.reverse()
        value.append("spoilt")


class Whole(unittest.TestCase):
    def test_nothing_handed_in_is_changed(self):
        for web, marks, goal in CASES:
            handed = (web, marks, goal, slides(web, marks)[:1], room(web, marks))
            before = copy.deepcopy(handed)
            for name, ask in asks(*handed).items():
                with self.subTest(name, web=web):
                    ask()
                    self.assertEqual(handed, before)

    def test_nothing_handed_in_is_changed_by_a_refusal(self):
        for name, web in SPOILT_WEBS.items():
            handed = (web, (0,), (1,), [(0, 1)], [(0,), (1, 0)])
            before = copy.deepcopy(handed)
            for ask in asks(*handed).values():
                with self.subTest(name):
                    with self.assertRaises(SlideError):
                        ask()
                    self.assertEqual(handed, before)

    def test_a_told_list_may_be_changed(self):
        for web, marks, goal in CASES:
            handed = (web, marks, goal, slides(web, marks)[:1], room(web, marks))
            before = copy.deepcopy(handed)
            answers = {name: copy.deepcopy(ask()) for name, ask in asks(*handed).items()}
            for name, ask in asks(*handed).items():
                with self.subTest(name, web=web):
                    spoil(ask())
                    self.assertEqual(handed, before)
                    for other, again in asks(*handed).items():
                        self.assertEqual(again(), answers[other], other)

    def test_told_lists_are_new(self):
        for web, marks, goal in CASES:
            own = room(web, marks)
            handed = (web, marks, goal, slides(web, marks)[:1], own)
            for name, ask in asks(*handed).items():
                with self.subTest(name, web=web):
                    one = ask()
                    other = ask()
                    if isinstance(one, list):
                        self.assertIsNot(one, other)
                        self.assertIsNot(one, own)
            self.assertIsNot(told(web, marks, goal)[1], told(web, marks, goal)[1])
            for one, other in zip(rooms(web, 2), rooms(web, 2)):
                self.assertIsNot(one, other)

    def test_what_was_handed_in_may_be_changed_later(self):
        lines = [(0, 1), (1, 2), (2, 3)]
        web = (4, lines)
        self.assertEqual(fewest(web, (0,), (3,)), [(0, 1), (1, 2), (2, 3)])
        self.assertIs(is_tree(web), True)
        self.assertEqual(len(rooms(web, 1)), 1)
        lines.remove((1, 2))
        self.assertIsNone(fewest(web, (0,), (3,)))
        self.assertIs(is_tree(web), False)
        self.assertEqual(rooms(web, 1), [[(0,), (1,)], [(2,), (3,)]])
        self.assertEqual(all_marks(web, 2), [(0, 2), (0, 3), (1, 2), (1, 3)])


if __name__ == "__main__":
    unittest.main()
