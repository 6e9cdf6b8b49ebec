"""Nothing that is handed in is changed or kept, and lists that are told are new ones."""

import copy
import unittest

from markslide.boards import Board
from markslide.errors import NoTree, SlideError
from markslide.slides import bars, fewest, gone, room, rooms, slides, told
from markslide.texts import read, written
from markslide.trees import free_parts, stiff, tree_told
from markslide.webs import all_marks, is_tree, look_marks, look_web
from tests.helper import SPOILT_WEBS, beside, grid, own_walk, ring, road

CASES = [
    (road(6), (0, 2), (3, 5)),
    (ring(6), (0, 2), (1, 4)),
    (ring(4), (0, 2), (1, 3)),
    (grid(3, 2), (0, 2), (3, 5)),
    (beside(road(3), road(3)), (0, 3), (0, 2)),
    # A tree on which the marks on 0 and 1 are stiff.
    ((6, [(0, 2), (1, 2), (2, 3), (3, 4), (4, 5)]), (0, 1, 3), (0, 1, 5)),
]


def asks(web, marks, goal, way, some):
    return {
        "look_web": lambda: look_web(web),
        "look_marks": lambda: look_marks(web, marks),
        "all_marks": lambda: all_marks(web, 2),
        "all_marks of 0": lambda: all_marks(web, 0),
        "is_tree": lambda: is_tree(web),
        "slides": lambda: slides(web, marks),
        "gone": lambda: gone(web, marks, way),
        "fewest": lambda: fewest(web, marks, goal),
        "fewest to the same": lambda: fewest(web, marks, marks),
        "room": lambda: room(web, marks),
        "rooms": lambda: rooms(web, 2),
        "bars": lambda: bars(web, marks, goal, some),
        "told": lambda: told(web, marks, goal),
        "told to the same": lambda: told(web, marks, marks),
        "written": lambda: written(web, marks),
        "read": lambda: read(written(web, marks)),
        "board": lambda: Board(web, marks).marks(),
        "board, slides": lambda: Board(web, marks).slides(),
        "board, row": lambda: Board(web, marks).row(),
        "board, to": lambda: Board(web, marks).to(goal),
        "board, played": lambda: played(Board(web, marks), way),
    }


def tree_asks(web, marks, goal):
    return {
        "stiff": lambda: stiff(web, marks),
        "free_parts": lambda: free_parts(web, marks),
        "tree_told": lambda: tree_told(web, marks, goal),
    }


def played(board, way):
    found = []
    for slide in way:
        board.slide(*slide)
        found.append((board.marks(), board.slides(), board.row()))
    while board.back():
        found.append((board.marks(), board.slides(), board.row()))
    return found


def fitting_asks(web, marks, goal, way, some):
    found = asks(web, marks, goal, way, some)
    if is_tree(web):
        found.update(tree_asks(web, marks, goal))
    return found


def spoil(value):
    """Changes every list within a told value."""
    if isinstance(value, (list, tuple)):
        for part in value:
            spoil(part)
    if isinstance(value, list):
        value.reverse()
        value.append("spoilt")


class Whole(unittest.TestCase):
    def test_nothing_handed_in_is_changed(self):
        for web, marks, goal in CASES:
            handed = (web, marks, goal, slides(web, marks)[:1], room(web, marks))
            before = copy.deepcopy(handed)
            for name, ask in fitting_asks(*handed).items():
                with self.subTest(name, web=web):
                    ask()
                    self.assertEqual(handed, before)

    def test_nothing_handed_in_is_changed_by_a_refusal(self):
        for name, web in SPOILT_WEBS.items():
            handed = (web, (0,), (1,), [(0, 1)], [(0,), (1, 0)])
            before = copy.deepcopy(handed)
            for ask in list(asks(*handed).values()) + list(tree_asks(*handed[:3]).values()):
                with self.subTest(name):
                    with self.assertRaises(SlideError):
                        ask()
                    self.assertEqual(handed, before)

    def test_a_told_list_may_be_changed(self):
        for web, marks, goal in CASES:
            handed = (web, marks, goal, slides(web, marks)[:1], room(web, marks))
            before = copy.deepcopy(handed)
            answers = {name: copy.deepcopy(ask()) for name, ask in fitting_asks(*handed).items()}
            for name, ask in fitting_asks(*handed).items():
                with self.subTest(name, web=web):
                    spoil(ask())
                    self.assertEqual(handed, before)
                    for other, again in fitting_asks(*handed).items():
                        self.assertEqual(again(), answers[other], other)

    def test_told_lists_are_new(self):
        for web, marks, goal in CASES:
            own = room(web, marks)
            handed = (web, marks, goal, slides(web, marks)[:1], own)
            for name, ask in fitting_asks(*handed).items():
                with self.subTest(name, web=web):
                    one = ask()
                    other = ask()
                    if isinstance(one, list):
                        self.assertIsNot(one, other)
                        self.assertIsNot(one, own)
            self.assertIsNot(told(web, marks, goal)[1], told(web, marks, goal)[1])
            for one, other in zip(rooms(web, 2), rooms(web, 2)):
                self.assertIsNot(one, other)

    def test_told_lists_within_told_values_are_new(self):
        web = CASES[-1][0]
        for one, other in zip(free_parts(web, (0, 1, 3)), free_parts(web, (0, 1, 3))):
            self.assertIsNot(one[0], other[0])
        text = written(web, (0, 1, 3))
        self.assertIsNot(read(text)[0][1], read(text)[0][1])
        board = Board(web, (0, 1, 3))
        self.assertIsNot(board.row(), board.row())
        self.assertIsNot(board.slides(), board.slides())
        self.assertIsNot(board.to((0, 1, 5))[1], board.to((0, 1, 5))[1])

    def test_all_that_tells_of_a_way_tells_the_same(self):
        for web, marks, goal in CASES:
            walk = own_walk(web, marks)
            with self.subTest(web):
                self.assertEqual(fewest(web, marks, goal) is not None, goal in walk)
                self.assertEqual(told(web, marks, goal), Board(web, marks).to(goal))
                self.assertEqual(told(web, marks, goal)[0], "way" if goal in walk else "room")
                self.assertEqual(room(web, marks), sorted(walk))
                if is_tree(web):
                    self.assertIs(tree_told(web, marks, goal), goal in walk)

    def test_what_was_handed_in_may_be_changed_later(self):
        lines = [(0, 1), (1, 2), (2, 3)]
        web = (4, lines)
        self.assertEqual(fewest(web, (0,), (3,)), [(0, 1), (1, 2), (2, 3)])
        self.assertIs(is_tree(web), True)
        self.assertEqual(len(rooms(web, 1)), 1)
        self.assertEqual(free_parts(web, (0,)), [([0, 1, 2, 3], 1)])
        self.assertEqual(written(web, (0,)).count("\n"), 3)
        lines.remove((1, 2))
        self.assertIsNone(fewest(web, (0,), (3,)))
        self.assertIs(is_tree(web), False)
        self.assertEqual(rooms(web, 1), [[(0,), (1,)], [(2,), (3,)]])
        self.assertEqual(all_marks(web, 2), [(0, 2), (0, 3), (1, 2), (1, 3)])
        self.assertEqual(written(web, (0,)).count("\n"), 2)
        with self.assertRaises(NoTree):
            stiff(web, (0,))


if __name__ == "__main__":
    unittest.main()
