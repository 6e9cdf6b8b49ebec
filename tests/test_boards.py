import copy
import inspect
import unittest

from markslide.boards import Board
from markslide.errors import BadMarks, BadSlide, Unlike
from tests.helper import (
    COMB,
    FIFTEEN,
    LARGER,
    SMALLER,
    SPOILT_MARKS,
    bare,
    beside,
    check_refusals,
    full,
    grid,
    own_sets,
    own_steps,
    own_steps_from,
    own_ways,
    ring,
    road,
    star,
)

# On a road of six with marks on 0, 2 and 4.
NO_SLIDES = {
    "not marked": (1, 0),
    "not marked, both empty": (5, 3),
    "along no line": (4, 1),
    "to itself": (0, 0),
    "next to another": (4, 3),
    "onto another": (0, 2),
    "turned round": (5, 4),
    "from below 0": (-1, 0),
    "to below 0": (0, -1),
    "just beyond": (4, 6),
    "from beyond": (6, 5),
    "15 figures from": (FIFTEEN, 5),
    "15 figures to": (4, FIFTEEN),
    "15 figures below 0": (4, -FIFTEEN),
}


def seen(board):
    return (board.marks(), board.slides(), board.row())


class Model:
    """What a board is to tell: the slides done, and the marks that were there after each."""

    def __init__(self, web, marks):
        self.web = web
        self.stages = [marks]
        self.done = []

    def steps(self):
        return own_steps_from(self.web, self.stages[-1])

    def slide(self, slide):
        self.stages.append(self.steps()[slide])
        self.done.append(slide)

    def back(self):
        if self.done:
            self.done.pop()
            self.stages.pop()
            return True
        return False

    def seen(self):
        return (self.stages[-1], sorted(self.steps()), self.done)


class Interface(unittest.TestCase):
    def test_arguments(self):
        asked = {
            "marks": [],
            "slides": [],
            "row": [],
            "slide": ["one", "other"],
            "back": [],
            "to": ["goal"],
        }
        self.assertEqual(list(inspect.signature(Board).parameters), ["web", "marks"])
        board = Board(road(3), (0,))
        for name, names in asked.items():
            with self.subTest(name):
                self.assertEqual(list(inspect.signature(getattr(board, name)).parameters), names)

    def test_kinds(self):
        board = Board(road(5), (0, 3))
        self.assertIs(type(board.marks()), tuple)
        self.assertIs(type(board.slides()), list)
        self.assertIs(type(board.row()), list)
        self.assertIsNone(board.slide(0, 1))
        for slide in board.slides() + board.row():
            self.assertIs(type(slide), tuple)
        self.assertIs(type(board.to((0, 3))), tuple)
        self.assertIs(board.back(), True)
        self.assertIs(board.back(), False)


class Making(unittest.TestCase):
    def test_a_new_board(self):
        for name, web in list(SMALLER.items()) + list(LARGER.items()):
            for marks in own_sets(web, 2)[::7] + own_sets(web, 1) + [()]:
                with self.subTest(name, marks=marks):
                    self.assertEqual(seen(Board(web, marks)), Model(web, marks).seen())

    def test_spoilt_webs_and_marks(self):
        check_refusals(self, Board)


class Sliding(unittest.TestCase):
    def test_written_out(self):
        board = Board(road(5), (0, 2))
        self.assertEqual(seen(board), ((0, 2), [(2, 3)], []))
        board.slide(2, 3)
        self.assertEqual(seen(board), ((0, 3), [(0, 1), (3, 2), (3, 4)], [(2, 3)]))
        board.slide(0, 1)
        self.assertEqual(seen(board), ((1, 3), [(1, 0), (3, 4)], [(2, 3), (0, 1)]))
        self.assertIs(board.back(), True)
        self.assertEqual(seen(board), ((0, 3), [(0, 1), (3, 2), (3, 4)], [(2, 3)]))
        board.slide(3, 4)
        self.assertEqual(seen(board), ((0, 4), [(0, 1), (4, 3)], [(2, 3), (3, 4)]))
        self.assertIs(board.back(), True)
        self.assertIs(board.back(), True)
        self.assertEqual(seen(board), ((0, 2), [(2, 3)], []))
        self.assertIs(board.back(), False)
        self.assertEqual(seen(board), ((0, 2), [(2, 3)], []))

    def test_a_slide_and_the_same_turned_round_both_stand_in_the_row(self):
        board = Board(road(3), (0,))
        board.slide(0, 1)
        board.slide(1, 0)
        self.assertEqual(seen(board), ((0,), [(0, 1)], [(0, 1), (1, 0)]))
        self.assertIs(board.back(), True)
        self.assertEqual(seen(board), ((1,), [(1, 0), (1, 2)], [(0, 1)]))

    def test_marks_rise_when_one_goes_past_the_numbers_of_others(self):
        board = Board((5, [(0, 4), (1, 2), (2, 3), (3, 4)]), (0, 2))
        board.slide(0, 4)
        self.assertEqual(board.marks(), (2, 4))
        board.slide(2, 1)
        board.slide(4, 0)
        self.assertEqual(board.marks(), (0, 1))
        self.assertIs(board.back(), True)
        self.assertEqual(board.marks(), (1, 4))

    def play(self, web, marks, turns):
        """A long row of slides, of such as are none and of takings back, in an order without a plan."""
        board = Board(web, marks)
        model = Model(web, marks)
        turn = 17
        for number in range(turns):
            turn = (turn * 1103515245 + 12345) % 2147483648
            choice = turn // 65536
            steps = sorted(model.steps())
            if choice % 4 == 0:
                self.assertIs(board.back(), model.back())
            elif choice % 4 == 1 or not steps:
                one, other = choice // 4 % (web[0] + 2) - 1, choice // 64 % (web[0] + 2) - 1
                if (one, other) not in steps:
                    with self.assertRaises(BadSlide):
                        board.slide(one, other)
            else:
                slide = steps[choice // 4 % len(steps)]
                self.assertIsNone(board.slide(*slide))
                model.slide(slide)
            self.assertEqual(seen(board), model.seen())
        while model.back():
            self.assertIs(board.back(), True)
            self.assertEqual(seen(board), model.seen())
        for number in range(3):
            self.assertIs(board.back(), False)
            self.assertEqual(seen(board), model.seen())
        self.assertEqual(board.marks(), marks)

    def test_long_rows(self):
        for name, web in list(SMALLER.items()) + list(LARGER.items()):
            for size in range(5):
                sets = own_sets(web, size)
                for marks in sets[:1] + sets[-1:]:
                    with self.subTest(name, marks=marks):
                        self.play(web, marks, 120)

    def test_the_row_leads_from_the_first_marks(self):
        board = Board(grid(4, 3), (0, 5, 11))
        for number in range(40):
            slides = board.slides()
            board.slide(*slides[number * 7 % len(slides)])
            if number % 5 == 4:
                self.assertIs(board.back(), True)
        marks = (0, 5, 11)
        self.assertEqual(len(board.row()), 32)
        for slide in board.row():
            marks = own_steps_from(grid(4, 3), marks)[slide]
        self.assertEqual(marks, board.marks())


class NoSlide(unittest.TestCase):
    def test_everything_is_as_it_was(self):
        for name, slide in NO_SLIDES.items():
            board = Board(road(6), (0, 2, 4))
            with self.subTest(name):
                with self.assertRaises(BadSlide):
                    board.slide(*slide)
                self.assertEqual(seen(board), ((0, 2, 4), [(4, 5)], []))
                self.assertIs(board.back(), False)
                board.slide(4, 5)
                self.assertEqual(board.row(), [(4, 5)])

    def test_everything_is_as_it_was_behind_slides(self):
        board = Board(road(6), (0, 2, 5))
        board.slide(5, 4)
        for name, slide in NO_SLIDES.items():
            with self.subTest(name):
                with self.assertRaises(BadSlide):
                    board.slide(*slide)
                self.assertEqual(seen(board), ((0, 2, 4), [(4, 5)], [(5, 4)]))
                self.assertEqual(board.to((0, 2, 5)), ("way", [(4, 5)]))
        self.assertIs(board.back(), True)
        self.assertEqual(board.marks(), (0, 2, 5))
        self.assertIs(board.back(), False)

    def test_every_pair_that_is_none(self):
        for name in ("road", "star", "grid", "two stars"):
            web = SMALLER[name]
            for marks, out in own_steps(web, 2).items():
                board = Board(web, marks)
                for one in range(-1, web[0] + 1):
                    for other in range(-1, web[0] + 1):
                        if (one, other) not in out:
                            with self.assertRaises(BadSlide, msg=(name, marks, one, other)):
                                board.slide(one, other)
                self.assertEqual(seen(board), (marks, sorted(out), []))

    def test_no_slide_at_all(self):
        for web, marks in ((bare(1), ()), (bare(1), (0,)), (ring(4), (0, 2)), (full(12), ()), (star(5), (1, 2))):
            board = Board(web, marks)
            with self.subTest(web, marks=marks):
                with self.assertRaises(BadSlide):
                    board.slide(0, 1)
                self.assertEqual(seen(board), (marks, [], []))
                self.assertIs(board.back(), False)


class To(unittest.TestCase):
    def test_others_of_the_same_size(self):
        for name, web in SMALLER.items():
            for size in range(4):
                steps = own_steps(web, size)
                for marks in list(steps)[::4]:
                    board = Board(web, marks)
                    ways = own_ways(steps, marks)
                    for goal in steps:
                        asked = ("way", ways[goal]) if goal in ways else ("room", sorted(ways))
                        self.assertEqual(board.to(goal), asked, (name, marks, goal))

    def test_from_the_marks_that_are_there(self):
        board = Board(road(5), (0,))
        self.assertEqual(board.to((2,)), ("way", [(0, 1), (1, 2)]))
        board.slide(0, 1)
        self.assertEqual(board.to((2,)), ("way", [(1, 2)]))
        board.slide(1, 2)
        self.assertEqual(board.to((2,)), ("way", []))
        board.slide(2, 3)
        self.assertEqual(board.to((2,)), ("way", [(3, 2)]))
        board.back()
        self.assertEqual(board.to((2,)), ("way", []))
        self.assertEqual(board.to((0,)), ("way", [(2, 1), (1, 0)]))

    def test_it_changes_nothing(self):
        board = Board(COMB, (0, 8))
        board.slide(0, 6)
        before = seen(board)
        board.to((5, 10))
        self.assertEqual(seen(board), before)

    def test_of_another_room(self):
        board = Board(beside(road(3), road(2)), (4,))
        self.assertEqual(board.to((0,)), ("room", [(3,), (4,)]))
        board.slide(4, 3)
        self.assertEqual(board.to((0,)), ("room", [(3,), (4,)]))

    def test_refusals_change_nothing(self):
        board = Board(road(6), (0, 2, 5))
        board.slide(5, 4)
        before = seen(board)
        for goal in ((), (0,), (0, 2)):
            with self.subTest(goal):
                with self.assertRaises(Unlike):
                    board.to(goal)
                self.assertEqual(seen(board), before)
        for name, goal in SPOILT_MARKS.items():
            with self.subTest(name):
                with self.assertRaises(BadMarks):
                    board.to(goal)
                self.assertEqual(seen(board), before)


class Kept(unittest.TestCase):
    """Nothing that is handed in is changed or kept, and what is told is the asker's own."""

    def test_the_list_of_lines_may_be_changed_later(self):
        for change in ("clear", "reverse", "pop"):
            lines = [(0, 1), (1, 2), (2, 3), (3, 4)]
            board = Board((5, lines), (0, 2))
            getattr(lines, change)()
            with self.subTest(change):
                self.assertEqual(seen(board), ((0, 2), [(2, 3)], []))
                board.slide(2, 3)
                board.slide(3, 4)
                self.assertEqual(seen(board), ((0, 4), [(0, 1), (4, 3)], [(2, 3), (3, 4)]))
                self.assertEqual(board.to((0, 3)), ("way", [(4, 3)]))
                self.assertIs(board.back(), True)
                self.assertEqual(board.marks(), (0, 3))

    def test_a_line_more_later(self):
        lines = [(0, 1)]
        board = Board((3, lines), (0,))
        lines.append((1, 2))
        self.assertEqual(board.to((2,)), ("room", [(0,), (1,)]))
        board.slide(0, 1)
        self.assertEqual(board.slides(), [(1, 0)])

    def test_what_is_handed_in_is_not_changed(self):
        web = grid(4, 3)
        before = copy.deepcopy(web)
        board = Board(web, (0, 5, 11))
        for number in range(10):
            board.slide(*board.slides()[-1])
            board.to((0, 2, 5))
            self.assertEqual(web, before)
        while board.back():
            self.assertEqual(web, before)

    def test_told_lists_may_be_changed(self):
        board = Board(road(5), (0, 2))
        board.slide(2, 3)
        before = copy.deepcopy(seen(board))
        way = copy.deepcopy(board.to((1, 4)))
        for told in (board.slides(), board.row(), board.to((1, 4))[1], board.to((0, 3))[1]):
            told.reverse()
            told.append((7, 7))
            self.assertEqual(seen(board), before)
            self.assertEqual(board.to((1, 4)), way)
            told.clear()
            self.assertEqual(seen(board), before)
            self.assertEqual(board.to((0, 3)), ("way", []))
        self.assertIs(board.back(), True)
        self.assertIs(board.back(), False)

    def test_a_told_room_may_be_changed(self):
        board = Board(ring(4), (0, 2))
        board.to((1, 3))[1].clear()
        self.assertEqual(board.to((1, 3)), ("room", [(0, 2)]))

    def test_told_lists_stay_as_they_were_told(self):
        board = Board(road(5), (0, 2))
        row = board.row()
        slides = board.slides()
        board.slide(2, 3)
        later = board.row()
        board.back()
        self.assertEqual((row, slides, later), ([], [(2, 3)], [(2, 3)]))

    def test_two_boards_on_one_web(self):
        web = road(5)
        one = Board(web, (0, 2))
        other = Board(web, (0, 2))
        one.slide(2, 3)
        self.assertEqual(seen(other), ((0, 2), [(2, 3)], []))
        self.assertIs(other.back(), False)
        other.slide(2, 3)
        other.slide(3, 4)
        self.assertEqual(seen(one), ((0, 3), [(0, 1), (3, 2), (3, 4)], [(2, 3)]))
        self.assertIs(one.back(), True)
        self.assertIs(one.back(), False)
        self.assertEqual(seen(other), ((0, 4), [(0, 1), (4, 3)], [(2, 3), (3, 4)]))
        self.assertEqual(one.to((0, 3)), ("way", [(2, 3)]))
        self.assertEqual(other.to((0, 3)), ("way", [(4, 3)]))


if __name__ == "__main__":
    unittest.main()
