"""Slides of marks, the fewest that lead to others, and the rooms that bar a way."""

from markslide.errors import BadSlide, Unlike
from markslide.webs import all_marks, are_marks, look_marks, touching


def slides(web, marks):
    look_marks(web, marks)
    return slides_from(web, marks)


def slides_from(web, marks):
    found = []
    for one in marks:
        for other in touching(web, one):
            if are_marks(web, slid(marks, (one, other))):
                found.append((one, other))
    return found


def slid(marks, slide):
    return tuple(sorted([spot for spot in marks if spot != slide[0]] + [slide[1]]))


def gone(web, marks, some):
    look_marks(web, marks)
    here = marks
    for slide in some:
        if slide not in slides_from(web, here):
            raise BadSlide("from the marks that are there then, this is no slide")
        here = slid(here, slide)
    return here


def look_both(web, marks, goal):
    look_marks(web, marks)
    look_marks(web, goal)
    if len(marks) != len(goal):
        raise Unlike("the marks and the others are not as many")


def ways_from(web, marks):
    ways = {marks: []}
    layer = [marks]
    while layer:
        # Each layer stands in the order of its ways, and slides rise: so the way that comes first
        # to new marks is, of their fewest, the first as lists are ordered.
        further = []
        for here in layer:
            for slide in slides_from(web, here):
                there = slid(here, slide)
                if there not in ways:
                    ways[there] = ways[here] + [slide]
                    further.append(there)
        layer = further
    return ways


def fewest(web, marks, goal):
    look_both(web, marks, goal)
    return ways_from(web, marks).get(goal)


def room(web, marks):
    look_marks(web, marks)
    return sorted(ways_from(web, marks))


def rooms(web, size):
    found = []
    housed = {}
    # All marks rise, so each room is met at its first marks, and the rooms come in their order.
    for marks in all_marks(web, size):
        if marks not in housed:
            fresh = room(web, marks)
            found.append(fresh)
            for inmate in fresh:
                housed[inmate] = True
    return found


def bars(web, marks, goal, some):
    look_both(web, marks, goal)
    return marks in some and goal not in some and is_closed(web, some)


def is_closed(web, some):
    own = {}
    for marks in some:
        own[marks] = True
    for marks in some:
        if not are_marks(web, marks):
            return False
        for slide in slides_from(web, marks):
            if slid(marks, slide) not in own:
                return False
    return True


def told(web, marks, goal):
    way = fewest(web, marks, goal)
    if way is None:
        return ("room", room(web, marks))
    return ("way", way)
