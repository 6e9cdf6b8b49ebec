"""Webs to test with, spoilt ones too, and a going through all sets that is the tests' own."""

from itertools import combinations, product

from markslide.errors import BadMarks, BadWeb

FIFTEEN = 999999999999999


def road(count):
    return (count, [(spot, spot + 1) for spot in range(count - 1)])


def ring(count):
    return (count, sorted([(spot, spot + 1) for spot in range(count - 1)] + [(0, count - 1)]))


def star(count):
    return (count, [(0, spot) for spot in range(1, count)])


def bare(count):
    return (count, [])


def full(count):
    return (count, list(combinations(range(count), 2)))


def grid(wide, high):
    lines = []
    for spot in range(wide * high):
        if spot % wide < wide - 1:
            lines.append((spot, spot + 1))
        if spot + wide < wide * high:
            lines.append((spot, spot + wide))
    return (wide * high, sorted(lines))


def halves(left, right):
    return (left + right, [(one, other) for one in range(left) for other in range(left, left + right)])


def beside(web, other):
    shifted = [(one + web[0], two + web[0]) for one, two in other[1]]
    return (web[0] + other[0], sorted(web[1] + shifted))


# A road of six, each spot with a leaf.
COMB = (12, sorted([(spot, spot + 1) for spot in range(5)] + [(spot, spot + 6) for spot in range(6)]))
# Three roads of three that meet in the spot 9: the numbers don't run along the roads.
SPIDER = (10, sorted([(0, 9), (3, 9), (6, 9), (0, 1), (1, 2), (3, 4), (4, 5), (6, 7), (7, 8)]))
TWISTED = (7, [(0, 4), (0, 6), (1, 3), (1, 6), (2, 5), (2, 6), (3, 5)])

SMALLER = {
    "one spot": bare(1),
    "no lines": bare(5),
    "road": road(7),
    "ring of three": ring(3),
    "even ring": ring(8),
    "odd ring": ring(7),
    "star": star(6),
    "full": full(5),
    "halves": halves(3, 4),
    "grid": grid(3, 2),
    "twisted": TWISTED,
    "road beside a ring": beside(road(4), ring(4)),
    "star beside a bare spot": beside(bare(1), star(5)),
    "two stars": beside(star(4), star(4)),
}

LARGER = {
    "road of 12": road(12),
    "ring of 12": ring(12),
    "star of 12": star(12),
    "comb": COMB,
    "spider": SPIDER,
    "grid of 12": grid(4, 3),
    "halves of 12": halves(6, 6),
    "full of 12": full(12),
    "no lines of 12": bare(12),
    "three roads": beside(road(5), beside(road(4), road(3))),
}


def every_web(count):
    pairs = list(combinations(range(count), 2))
    for size in range(len(pairs) + 1):
        for lines in combinations(pairs, size):
            yield (count, list(lines))


def small_webs():
    for count in range(1, 5):
        for web in every_web(count):
            yield web


SPOILT_WEBS = {
    "0 spots": (0, []),
    "0 spots, a line": (0, [(0, 1)]),
    "13 spots": (13, []),
    "13 spots on a road": road(13),
    "fewer than 0 spots": (-1, []),
    "15 figures of spots": (FIFTEEN, []),
    "15 figures of spots, a line": (FIFTEEN, [(0, 1)]),
    "15 figures below 0": (-FIFTEEN, []),
    "a line of no spot": (4, [()]),
    "a line of one spot": (4, [(0,)]),
    "a line of three spots": (4, [(0, 1, 2)]),
    "a long line behind a good one": (4, [(0, 1), (0, 1, 2)]),
    "a short line ahead of a good one": (4, [(0,), (0, 1)]),
    "first spots out of turn": (4, [(1, 2), (0, 1)]),
    "second spots out of turn": (4, [(0, 2), (0, 1)]),
    "the last out of turn": (4, [(0, 1), (2, 3), (1, 2)]),
    "a line twice": (4, [(0, 1), (0, 1)]),
    "the last line twice": (4, [(0, 1), (1, 2), (1, 2)]),
    "the greater spot first": (4, [(1, 0)]),
    "the greater spot first in the last": (4, [(0, 1), (3, 2)]),
    "both ways": (4, [(0, 1), (1, 0)]),
    "from a spot to itself": (4, [(1, 1)]),
    "one spot, to itself": (1, [(0, 0)]),
    "one spot, a line": (1, [(0, 1)]),
    "a spot just beyond": (4, [(0, 4)]),
    "a spot just beyond in the last": (4, [(0, 1), (3, 4)]),
    "both spots beyond": (4, [(4, 5)]),
    "a spot of 15 figures": (4, [(0, FIFTEEN)]),
    "a spot below 0": (4, [(-1, 2)]),
    "both spots below 0": (4, [(-2, -1)]),
    "15 figures below 0 in a line": (4, [(-FIFTEEN, 0)]),
}

# On a road of six: 0-1-2-3-4-5.
SPOILT_MARKS = {
    "a spot just beyond": (6,),
    "a spot just beyond behind a good one": (0, 6),
    "far beyond": (0, 2, 13),
    "15 figures": (FIFTEEN,),
    "15 figures behind good ones": (0, 2, FIFTEEN),
    "below 0": (-1,),
    "below 0 ahead of good ones": (-1, 1, 3),
    "15 figures below 0": (-FIFTEEN, 2),
    "out of turn": (2, 0),
    "the last out of turn": (0, 4, 2),
    "the first out of turn": (2, 0, 4),
    "twice": (0, 0),
    "the last twice": (0, 2, 2),
    "touching": (0, 1),
    "the last touching": (0, 2, 3),
    "the first touching": (0, 1, 3),
    "touching and out of turn": (1, 0),
    "touching, not side by side": (1, 5, 2),
    "more than there are spots": (0, 1, 2, 3, 4, 5, 6),
}


def check_refusals(case, ask):
    """Of an ask that takes a web and marks: BadWeb of every spoilt web, then BadMarks of spoilt marks."""
    for name, web in SPOILT_WEBS.items():
        for marks in ((), (0,), (1, 0), (FIFTEEN,)):
            with case.subTest(name, marks=marks):
                with case.assertRaises(BadWeb):
                    ask(web, marks)
    for name, marks in SPOILT_MARKS.items():
        with case.subTest(name):
            with case.assertRaises(BadMarks):
                ask(road(6), marks)


def own_sets(web, size):
    """All sets of spots of that size without a line in them, as rising tuples in their order."""
    lines = [set(line) for line in web[1]]
    return [
        chosen
        for chosen in combinations(range(web[0]), size)
        if not any(line <= set(chosen) for line in lines)
    ]


def own_steps(web, size):
    """Of each set, by going through all sets: the slides, and the set to which each leads."""
    sets = own_sets(web, size)
    steps = {}
    for here in sets:
        steps[here] = {}
        for there in sets:
            left = set(here) - set(there)
            come = set(there) - set(here)
            if len(left) == 1 and tuple(sorted(left | come)) in web[1]:
                steps[here][(left.pop(), come.pop())] = there
    return steps


def own_ways(steps, start):
    """Of each set to which one comes: the least of all shortest lists of slides."""
    least = {start: []}
    newest = {start: []}
    while newest:
        tries = {}
        for here, way in newest.items():
            for slide, there in steps[here].items():
                if there not in least:
                    tries.setdefault(there, []).append(way + [slide])
        newest = {there: min(ways) for there, ways in tries.items()}
        least.update(newest)
    return least


def all_lists(steps, start, length):
    """Every list of that many slides that can be done one behind the other, with its end."""
    found = [([], start)]
    for turn in range(length):
        found = [(way + [slide], there) for way, here in found for slide, there in steps[here].items()]
    return found


def own_rooms(steps):
    """The sets parted by merging whatever a slide joins."""
    parts = [{here} for here in steps]
    for here, out in steps.items():
        for there in out.values():
            joined = [part for part in parts if here in part or there in part]
            if len(joined) == 2:
                parts = [part for part in parts if part not in joined] + [joined[0] | joined[1]]
    return sorted(sorted(part) for part in parts)


def own_steps_from(web, marks):
    """Each slide of marks, found by trying every line both ways, with the set to which it leads."""
    steps = {}
    for line in web[1]:
        for one, other in (line, line[::-1]):
            if one in marks and other not in marks:
                there = (set(marks) - {one}) | {other}
                if not any(end in there and start in there for start, end in web[1]):
                    steps[(one, other)] = tuple(sorted(there))
    return steps


def own_walk(web, start):
    """The whole room of the start: each set in it, with the slides that may be done there."""
    walk = {}
    ahead = [start]
    while ahead:
        here = ahead.pop()
        if here not in walk:
            walk[here] = own_steps_from(web, here)
            ahead += walk[here].values()
    return walk


def own_walks(web):
    """Every room of a web, of all sizes."""
    walks = []
    housed = set()
    for size in range(web[0] + 1):
        for marks in own_sets(web, size):
            if marks not in housed:
                walk = own_walk(web, marks)
                housed |= set(walk)
                walks.append(walk)
    return walks


def tree_of(code):
    """The tree that a list of spots codes, each spot named once less than it has lines (as Pruefer told)."""
    count = len(code) + 2
    left = [1 + code.count(spot) for spot in range(count)]
    lines = []
    for spot in code:
        leaf = left.index(1)
        lines.append(tuple(sorted((leaf, spot))))
        left[leaf] -= 1
        left[spot] -= 1
    lines.append(tuple(spot for spot in range(count) if left[spot] == 1))
    return (count, sorted(lines))


def every_tree(count):
    if count == 1:
        return [bare(1)]
    return [tree_of(code) for code in product(range(count), repeat=count - 2)]


def shape_from(ends, spot, behind):
    return "(" + "".join(sorted(shape_from(ends, other, spot) for other in ends[spot] if other != behind)) + ")"


def shape_of(web):
    """The same text for two trees just if one is the other with its spots renamed."""
    ends = {spot: [sum(line) - spot for line in web[1] if spot in line] for spot in range(web[0])}
    return min(shape_from(ends, spot, None) for spot in range(web[0]))


def tree_shapes(most):
    """Of each count of spots up to the most: one tree of every shape."""
    shapes = {1: [bare(1)]}
    for count in range(2, most + 1):
        found = {}
        for web in shapes[count - 1]:
            for spot in range(web[0]):
                longer = (count, sorted(web[1] + [(spot, web[0])]))
                found.setdefault(shape_of(longer), longer)
        shapes[count] = list(found.values())
    return shapes


def renamed(web, names):
    """The web with each spot called by another number."""
    return (web[0], sorted(tuple(sorted((names[one], names[other]))) for one, other in web[1]))


def shuffled(web):
    """The web with its spots renamed so that the numbers don't run along its roads."""
    names = list(range(web[0]))
    return renamed(web, names[1::3] + names[0::3][::-1] + names[2::3])
