"""Webs of spots and lines, and the marks that may lie on them."""

from markslide.errors import BadMarks, BadWeb

MOST_SPOTS = 12


def look_web(web):
    if len(web) != 2:
        raise BadWeb("a web is a pair: how many spots, and a list of lines")
    if not 1 <= web[0] <= MOST_SPOTS:
        raise BadWeb("a web has 1 to 12 spots")
    for line in web[1]:
        if not is_line(web[0], line):
            raise BadWeb("a line is a pair of two spots of the web, the lesser first")
    if not rises(web[1]):
        raise BadWeb("the lines rise, and none stands twice")


def is_line(count, line):
    return len(line) == 2 and 0 <= line[0] < line[1] < count


def rises(row):
    for place in range(1, len(row)):
        if row[place - 1] >= row[place]:
            return False
    return True


def look_marks(web, marks):
    look_web(web)
    if not are_marks(web, marks):
        raise BadMarks("marks are spots of the web, rising, none twice, no two of them at the ends of a line")


def are_marks(web, marks):
    for spot in marks:
        if not 0 <= spot < web[0]:
            return False
    for one, other in web[1]:
        if one in marks and other in marks:
            return False
    return rises(marks)


def all_marks(web, size):
    look_web(web)
    if size < 0:
        return []
    found = [()]
    # A size may be far beyond what any web holds, so the growing ends when nothing is left to grow.
    while found and len(found[0]) < size:
        found = grown(web, found)
    return found


def grown(web, some):
    # Marks less their last spot are marks too, so none is missed; and the order of the shorter ones is kept.
    longer = []
    for marks in some:
        for spot in range(web[0]):
            if are_marks(web, marks + (spot,)):
                longer.append(marks + (spot,))
    return longer


def touching(web, spot):
    # The lines rise: those that end at the spot stand ahead of those that begin there, so what is told rises.
    found = []
    for one, other in web[1]:
        if one == spot:
            found.append(other)
        if other == spot:
            found.append(one)
    return found


def is_tree(web):
    look_web(web)
    # A web that hangs together has no ring just if it has one line fewer than spots.
    return len(web[1]) == web[0] - 1 and hangs_together(web)


def hangs_together(web):
    return len(hanging(web, 0, list(range(web[0])))) == web[0]


def hanging(web, start, some):
    reached = [start]
    rim = [start]
    while rim:
        rim = [spot for spot in some if spot not in reached and touches_any(web, spot, reached)]
        reached = reached + rim
    return sorted(reached)


def touches_any(web, spot, some):
    return any([other in some for other in touching(web, spot)])
