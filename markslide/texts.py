"""Webs with marks written as texts, and read from them."""

from markslide.errors import BadText, SlideError
from markslide.webs import MOST_SPOTS, look_marks

MARK = "*"
EMPTY = "."


def written(web, marks):
    look_marks(web, marks)
    signs = [MARK if spot in marks else EMPTY for spot in range(web[0])]
    return "\n".join(["".join(signs)] + [row_of(line) for line in web[1]])


def row_of(line):
    one = line[0]
    other = line[1]
    return f"{one}-{other}"


def read(text):
    rows = text.split("\n")
    marks = marks_read(rows[0])
    web = (len(rows[0]), lines_read(rows[1:]))
    try:
        look_marks(web, marks)
    except SlideError:
        raise BadText("what is written there is no web with marks") from None
    return (web, marks)


def marks_read(row):
    for sign in row:
        if sign != MARK and sign != EMPTY:
            raise BadText("the first row has a star for a mark and a point for another spot, nothing else")
    return tuple([spot for spot, sign in enumerate(row) if sign == MARK])


def lines_read(rows):
    lines = lines_by_row()
    for row in rows:
        if row not in lines:
            raise BadText("each row behind the first is a line: the lesser spot, a dash, the greater spot")
    return [lines[row] for row in rows]


def lines_by_row():
    # Looking a row up among all that can be written needs no reading of numbers, so none is too long,
    # and noughts or signs ahead are refused with everything else.
    lines = {}
    for one in range(MOST_SPOTS):
        for other in range(one + 1, MOST_SPOTS):
            lines[row_of((one, other))] = (one, other)
    return lines
