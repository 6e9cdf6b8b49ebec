import inspect
import re
import unittest
from itertools import product

from markslide import texts
from markslide.errors import BadText
from markslide.texts import read, written
from tests.helper import (
    COMB,
    LARGER,
    SMALLER,
    bare,
    check_refusals,
    full,
    grid,
    own_sets,
    ring,
    road,
    small_webs,
    star,
)

# From the blank to the tilde without the one with the number 37, and the line end.
SIGNS = [chr(number) for number in range(32, 127) if number != 37] + ["\n"]


def rows(*some):
    return "\n".join(some)


def own_read(text):
    """The test's own look: the web and marks if the text is just what is written of them, or None."""
    first, *others = text.split("\n")
    if not re.fullmatch(r"[*.]{1,12}", first):
        return None
    lines = []
    for row in others:
        if not re.fullmatch(r"(0|[1-9][0-9]?)-(0|[1-9][0-9]?)", row):
            return None
        one, other = row.split("-")
        lines.append((int(one), int(other)))
    marks = tuple(place for place, sign in enumerate(first) if sign == "*")
    fits = all(one < other < len(first) for one, other in lines)
    apart = not any(one in marks and other in marks for one, other in lines)
    if fits and apart and lines == sorted(set(lines)):
        return ((len(first), lines), marks)
    return None


class Interface(unittest.TestCase):
    def test_arguments(self):
        self.assertEqual(list(inspect.signature(texts.written).parameters), ["web", "marks"])
        self.assertEqual(list(inspect.signature(texts.read).parameters), ["text"])

    def test_kinds(self):
        self.assertIs(type(written(road(3), (0, 2))), str)
        found = read(rows("*.*", "0-1", "1-2"))
        self.assertIs(type(found), tuple)
        web, marks = found
        self.assertIs(type(web), tuple)
        self.assertEqual([type(half) for half in web], [int, list])
        self.assertEqual([type(line) for line in web[1]], [tuple, tuple])
        self.assertEqual([type(spot) for spot in web[1][0] + marks], [int, int, int, int])
        self.assertIs(type(marks), tuple)


class Written(unittest.TestCase):
    def test_row_by_row(self):
        self.assertEqual(written(road(4), (0, 2)), rows("*.*.", "0-1", "1-2", "2-3"))
        self.assertEqual(written(ring(4), (1, 3)), rows(".*.*", "0-1", "0-3", "1-2", "2-3"))
        self.assertEqual(written(star(5), (0,)), rows("*....", "0-1", "0-2", "0-3", "0-4"))

    def test_no_lines(self):
        self.assertEqual(written(bare(3), ()), "...")
        self.assertEqual(written(bare(3), (0, 1, 2)), "***")
        self.assertEqual(written(bare(3), (1,)), ".*.")

    def test_one_spot(self):
        self.assertEqual(written(bare(1), ()), ".")
        self.assertEqual(written(bare(1), (0,)), "*")

    def test_12_spots(self):
        self.assertEqual(written(bare(12), (0, 11)), "*..........*")
        self.assertEqual(
            written(road(12), (1, 9, 11)),
            rows(".*.......*.*", "0-1", "1-2", "2-3", "3-4", "4-5", "5-6", "6-7", "7-8", "8-9", "9-10", "10-11"),
        )
        self.assertEqual(written(full(12), ()).count("\n"), 66)

    def test_spoilt_webs_and_marks(self):
        check_refusals(self, written)


class ReadAgain(unittest.TestCase):
    def check(self, web, marks):
        text = written(web, marks)
        self.assertEqual(read(text), (web, marks))
        self.assertEqual(own_read(text), (web, marks))

    def test_every_small_web_with_all_marks(self):
        for web in small_webs():
            for size in range(web[0] + 1):
                for marks in own_sets(web, size):
                    self.check(web, marks)

    def test_larger_webs(self):
        for name, web in list(SMALLER.items()) + list(LARGER.items()):
            for size in range(web[0] + 1):
                for marks in own_sets(web, size)[::7]:
                    with self.subTest(name, marks=marks):
                        self.check(web, marks)

    def test_each_line_of_12_spots_by_itself(self):
        for line in full(12)[1]:
            self.check((12, [line]), line[:1])

    def test_each_count_of_spots(self):
        for count in range(1, 13):
            for web in (bare(count), road(count), star(count), full(count)):
                self.check(web, (count - 1,))


class NoText(unittest.TestCase):
    def refused(self, text):
        with self.subTest(text[:80]):
            self.assertIsNone(own_read(text))
            with self.assertRaises(BadText):
                read(text)

    def check(self, text):
        asked = own_read(text)
        if asked is None:
            with self.assertRaises(BadText, msg=repr(text)):
                read(text)
        else:
            self.assertEqual(read(text), asked, repr(text))
            self.assertEqual(written(*asked), text)

    def test_every_short_text_of_some_signs(self):
        good = 0
        for length in range(7):
            for signs in product("*.-012\n", repeat=length):
                text = "".join(signs)
                self.check(text)
                good += own_read(text) is not None
        # Each bare web of 1 to 6 spots with its marks, and two spots with a line in three ways.
        self.assertEqual(good, 2 + 4 + 8 + 16 + 32 + 64 + 3)

    def spoilt(self, text):
        for place in range(len(text) + 1):
            self.check(text[:place] + text[place + 1:])
            for sign in SIGNS:
                self.check(text[:place] + sign + text[place:])
                self.check(text[:place] + sign + text[place + 1:])

    def test_a_sign_put_in_taken_out_or_made_another(self):
        self.spoilt(".")
        self.spoilt("*")
        self.spoilt(written(bare(12), (0, 5)))
        self.spoilt(written(bare(11), (0, 5)))
        self.spoilt(written(road(4), (0, 2)))
        self.spoilt(written(grid(3, 2), (1, 3, 5)))
        self.spoilt(written(road(12), (0, 10)))
        self.spoilt(written(COMB, (0, 7, 11)))
        self.spoilt(written((12, [(0, 1), (0, 10), (1, 11), (10, 11)]), (0, 11)))

    def test_two_signs_changed_round(self):
        for text in (written(road(4), (0, 2)), written((12, [(0, 1), (0, 10), (1, 11), (10, 11)]), (0, 11))):
            for one in range(len(text)):
                for other in range(one):
                    signs = list(text)
                    signs[one], signs[other] = signs[other], signs[one]
                    self.check("".join(signs))

    def test_rows_changed_round_taken_out_or_twice(self):
        some = written(grid(3, 2), (0,)).split("\n")
        for one in range(len(some)):
            self.check(rows(*some[:one], *some[one + 1:]))
            self.check(rows(*some[:one], some[one], *some[one:]))
            for other in range(one):
                changed = list(some)
                changed[one], changed[other] = changed[other], changed[one]
                self.refused(rows(*changed))

    def test_the_empty_text(self):
        self.refused("")

    def test_line_ends(self):
        for text in ("\n", "\n\n", "...\n", "\n...", "...\n\n", rows("...", "0-1", ""), rows("", "...", "0-1"),
                     rows("...", "", "0-1"), rows("...", "0-1", "", "1-2"), rows("", "0-1")):
            self.refused(text)

    def test_noughts_ahead(self):
        for row in ("00-1", "0-01", "01-2", "1-02", "0-011", "010-11", "10-011", "000-1"):
            self.refused(rows("............", row))

    def test_signs_ahead_of_numbers(self):
        for row in ("+0-1", "0-+1", "-0-1", "0--1", "-1-0", "--1", "0-1_", "0_-1", "1_0-11", "0x0-1"):
            self.refused(rows("............", row))

    def test_blanks(self):
        for text in (" ...", "... ", ". ..", " ", rows("...", " 0-1"), rows("...", "0-1 "), rows("...", "0 -1"),
                     rows("...", "0- 1"), rows("...", " "), rows("...", "0 1"), rows("...", "0-1", " ")):
            self.refused(text)

    def test_rows_that_are_no_pair(self):
        for row in ("0", "-", "0-", "-1", "01", "0-1-2", "0-1-", "-0-1", "0,1", "a-b", "0-a", "0-1;", "(0, 1)", "*"):
            self.refused(rows("...", row))

    def test_spots_of_two_figures(self):
        found = read(rows("...........*", "0-11", "9-10", "10-11"))
        self.assertEqual(found, ((12, [(0, 11), (9, 10), (10, 11)]), (11,)))
        self.assertEqual(read(rows("...........", "2-10")), ((11, [(2, 10)]), ()))
        self.refused(rows("............", "10-11", "9-10"))
        self.refused(rows("............", "0-10", "0-2"))
        self.assertEqual(read(rows("............", "0-2", "0-10")), ((12, [(0, 2), (0, 10)]), ()))

    def test_spots_beyond_the_count(self):
        self.refused(rows(".", "0-1"))
        self.refused(rows("...", "0-3"))
        self.refused(rows("...", "3-4"))
        self.refused(rows("...........", "0-11"))
        self.refused(rows("............", "0-12"))
        self.refused(rows("............", "12-13"))
        self.refused(rows("............", "0-99"))

    def test_the_greater_spot_first_or_both_the_same(self):
        for row in ("1-0", "2-1", "11-10", "10-9", "0-0", "11-11"):
            self.refused(rows("............", row))

    def test_lines_out_of_turn_or_twice(self):
        self.refused(rows("....", "1-2", "0-1"))
        self.refused(rows("....", "0-2", "0-1"))
        self.refused(rows("....", "0-1", "0-1"))
        self.refused(rows("....", "0-1", "1-2", "1-2"))
        self.refused(rows("....", "0-1", "2-3", "1-2"))

    def test_marks_that_touch(self):
        self.refused(rows("**", "0-1"))
        self.refused(rows("*..*", "0-1", "0-3"))
        self.refused(rows("..........**", "10-11"))

    def test_0_and_13_spots(self):
        for signs in ("", ".............", "*............", "*" * 13):
            self.refused(signs)
            self.refused(rows(signs, "0-1"))

    def test_other_signs_in_the_first_row(self):
        for sign in SIGNS:
            if sign not in "*.\n":
                self.refused(sign)
                self.refused(".." + sign)
                self.refused(rows(sign + "..", "0-1"))

    def test_very_long_texts(self):
        long = "1" * 20000
        for text in (rows("...", "0-" + long), rows("...", long + "-1"), rows("...", long + "-" + long), long,
                     rows("...", "0" * 20000 + "-1"), rows("...", "-" * 20000), "." * 100000, "*" * 100000,
                     rows("...", *["0-1"] * 20000), "\n" * 20000):
            self.refused(text)


if __name__ == "__main__":
    unittest.main()
