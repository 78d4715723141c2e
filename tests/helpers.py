"""Rows of webs, and things that are no names, for several tests."""

import random

from fivehues.webs import Web

NO_NAMES = [
    "", "abcdefghi", "A", "aB", "Ab", "a1", "7", "a b", " a", "a ", "a\n", "a-b", "_", "`", "{", "~",
    0, 1, -3, True, False, None, [], ["a"], (), ("a",), {}, {"a": "b"}, b"", b"a", object(),
]

TRIANGLE = [("a", ["b", "c"]), ("b", ["a", "c"]), ("c", ["a", "b"])]

# Four places, each tied to each.
FOUR = [
    ("a", ["b", "c", "d"]),
    ("b", ["a", "d", "c"]),
    ("c", ["a", "b", "d"]),
    ("d", ["a", "c", "b"]),
]

# Two triangles that share the place a.
BOW = [
    ("a", ["b", "c", "d", "e"]),
    ("b", ["a", "c"]),
    ("c", ["a", "b"]),
    ("d", ["a", "e"]),
    ("e", ["a", "d"]),
]

# A place with three others, each tied to it alone.
STAR = [("m", ["a", "b", "c"]), ("a", ["m"]), ("b", ["m"]), ("c", ["m"])]

# A triangle, a tie by itself and two places without ties.
PIECES = [
    ("z", []),
    ("b", ["x", "y"]),
    ("x", ["y", "b"]),
    ("y", ["b", "x"]),
    ("d", ["c"]),
    ("c", ["d"]),
    ("a", []),
]

# Seventeen places whose first one in the order meets five hues when it comes back, so that it gets the sixth.
SIXTH = (
    "aa: ad bd cd bb south; ab: ac ba bd ad bc; ac: ab bc north cb ca ba; ad: aa south bc ab bd; ae: ba ca ce cc cd; "
    "ba: ab ac ca ae cd bd; bb: aa cd cc be north south; bc: ab ad south north ac; bd: aa ad ab ba cd; "
    "be: bb cc ce cb north; ca: ac cb ce ae ba; cb: ac north be ce ca; cc: ae ce be bb cd; cd: aa bd ba ae cc bb; "
    "ce: ae ca cb be cc; north: ac bc south bb be cb; south: aa bb north bc ad"
)


def twisted(first="a"):
    """Four places, each tied to each, one round turned about: not flat, with two faces."""
    p, q, r, s = [chr(ord(first) + k) for k in range(4)]
    return [(p, [s, r, q]), (q, [p, s, r]), (r, [p, q, s]), (s, [p, r, q])]


def grid(high=5, wide=8, closed=False):
    """Places in rows and columns; closed ones are tied round about, as on a wheel's tube."""
    rows = []
    for y in range(high):
        for x in range(wide):
            beside = [(y, x + 1), (y + 1, x), (y, x - 1), (y - 1, x)]
            if closed:
                beside = [(b % high, a % wide) for b, a in beside]
            beside = [(b, a) for b, a in beside if 0 <= b < high and 0 <= a < wide]
            rows.append((grid_name(y, x), [grid_name(b, a) for b, a in beside]))
    return rows


def grid_name(y, x):
    return chr(ord("a") + y) + chr(ord("a") + x)


def caps(high=2, wide=5):
    """Two caps with closed rows of places between them, all faces of three places; caps() has five ties each."""
    rows = [("north", [grid_name(0, x) for x in range(wide)])]
    for y in range(high):
        for x in range(wide):
            above = [grid_name(y - 1, (x + 1) % wide), grid_name(y - 1, x)] if y else ["north"]
            below = [grid_name(y + 1, (x - 1) % wide), grid_name(y + 1, x)] if y < high - 1 else ["south"]
            around = [grid_name(y, (x + 1) % wide)] + above + [grid_name(y, (x - 1) % wide)] + below
            rows.append((grid_name(y, x), around))
    return rows + [("south", [grid_name(high - 1, -x % wide) for x in range(wide)])]


def thinned(rows, chance):
    """Rows without some of their places and ties, as chance has it: flat as well."""
    kept = [place for place, around in rows if chance.random() < 0.95]
    ties = [(one, other) for one, around in rows for other in around if one < other]
    gone = [tie for tie in ties if chance.random() < 0.1]
    gone += [(other, one) for one, other in gone]
    return [
        (place, [other for other in around if other in kept and (place, other) not in gone])
        for place, around in rows
        if place in kept
    ]


def mixed(rows, chance):
    """Rows with their names exchanged among their places, as chance has it."""
    names = [place for place, around in rows]
    others = chance.sample(names, len(names))
    new = dict(zip(names, others))
    return [(new[place], [new[other] for other in around]) for place, around in rows]


def rounds(web):
    """All that a web tells of itself."""
    return [(place, web.round_of(place)) for place in web.places()]


def flat_webs():
    """Webs of many kinds, all of them flat."""
    samples = [[], [("a", [])], TRIANGLE, FOUR, BOW, STAR, PIECES, grid(), grid(1, 7), grid(2, 2)]
    samples += [caps(high, wide) for high, wide in [(1, 3), (2, 5), (3, 5), (2, 7), (6, 6)]]
    return [Web(rows) for rows in samples]


def chance_webs(many, high=3, wide=5):
    """Flat webs by chance, but the same ones each time."""
    chance = random.Random(many)
    return [Web(mixed(thinned(caps(high, wide), chance), chance)) for k in range(many)]
