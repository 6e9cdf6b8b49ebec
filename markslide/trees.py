"""Marks on trees: those that never move, and the parts in which the others lie."""

from markslide.errors import NoTree
from markslide.slides import look_both
from markslide.webs import hanging, is_tree, look_marks, touches_any, touching


def stiff(web, marks):
    look_marks(web, marks)
    look_tree(web)
    return stiff_ones(web, marks)


def look_tree(web):
    if not is_tree(web):
        raise NoTree("the web does not hang together, or it has a ring")


def stiff_ones(web, marks):
    return tuple([spot for spot in marks if is_stiff(web, marks, spot, None)])


def is_stiff(web, marks, spot, behind):
    # What lies behind is left out: without that spot, the branch that begins here is a tree of its own.
    for other in touching(web, spot):
        if other != behind and not is_barred(web, marks, other, spot):
            return False
    return True


def is_barred(web, marks, spot, behind):
    # A mark comes from behind onto this spot once all other marks that touch it are gone from there. On a tree
    # these lie in branches that only this spot joins, so they leave one by one unless one is stiff in its branch.
    for other in touching(web, spot):
        if other != behind and other in marks and is_stiff(web, marks, other, spot):
            return True
    return False


def free_parts(web, marks):
    look_marks(web, marks)
    look_tree(web)
    return parts_beside(web, marks, stiff_ones(web, marks))


def parts_beside(web, marks, held):
    parts = []
    rest = [spot for spot in range(web[0]) if spot not in held and not touches_any(web, spot, held)]
    while rest:
        spots = hanging(web, rest[0], rest)
        parts.append((spots, len([spot for spot in spots if spot in marks])))
        rest = [spot for spot in rest if spot not in spots]
    return parts


def tree_told(web, marks, goal):
    look_both(web, marks, goal)
    look_tree(web)
    held = stiff_ones(web, marks)
    if held != stiff_ones(web, goal):
        return False
    return parts_beside(web, marks, held) == parts_beside(web, goal, held)
