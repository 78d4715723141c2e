"""Rows of webs, and things that are no names, for several tests."""

from fivehues.webs import Web

NO_NAMES = [
    "", "abcdefghi", "A", "aB", "Ab", "a1", "7", "a b", " a", "a ", "a\n", "a-b", "_", "`", "{", "~",
    0, 1, -3, True, False, None, [], ["a"], (), ("a",), {}, {"a": "b"}, b"", b"a", object(),
]

TRIANGLE = [("a", ["b", "c"]), ("b", ["a", "c"]), ("c", ["a", "b"])]

# Four places, each tied to each.
FOUR = [
    ("a", ["b", "c", "d"]),
    ("b", ["a", "d", "c"]),
    ("c", ["a", "b", "d"]),
    ("d", ["a", "c", "b"]),
]

# Two triangles that share the place a.
BOW = [
    ("a", ["b", "c", "d", "e"]),
    ("b", ["a", "c"]),
    ("c", ["a", "b"]),
    ("d", ["a", "e"]),
    ("e", ["a", "d"]),
]

# A place with three others, each tied to it alone.
STAR = [("m", ["a", "b", "c"]), ("a", ["m"]), ("b", ["m"]), ("c", ["m"])]

# A triangle, a tie by itself and two places without ties.
PIECES = [
    ("z", []),
    ("b", ["x", "y"]),
    ("x", ["y", "b"]),
    ("y", ["b", "x"]),
    ("d", ["c"]),
    ("c", ["d"]),
    ("a", []),
]


def twisted(first="a"):
    """Four places, each tied to each, one round turned about: not flat, with two faces."""
    p, q, r, s = [chr(ord(first) + k) for k in range(4)]
    return [(p, [s, r, q]), (q, [p, s, r]), (r, [p, q, s]), (s, [p, r, q])]


def grid(high=5, wide=8, closed=False):
    """Places in rows and columns; closed ones are tied round about, as on a wheel's tube."""
    rows = []
    for y in range(high):
        for x in range(wide):
            beside = [(y, x + 1), (y + 1, x), (y, x - 1), (y - 1, x)]
            if closed:
                beside = [(b % high, a % wide) for b, a in beside]
            beside = [(b, a) for b, a in beside if 0 <= b < high and 0 <= a < wide]
            rows.append((grid_name(y, x), [grid_name(b, a) for b, a in beside]))
    return rows


def grid_name(y, x):
    return chr(ord("a") + y) + chr(ord("a") + x)


def rounds(web):
    """All that a web tells of itself."""
    return [(place, web.round_of(place)) for place in web.places()]


def flat_webs():
    """Webs of many kinds, all of them flat."""
    samples = [[], [("a", [])], TRIANGLE, FOUR, BOW, STAR, PIECES, grid(), grid(1, 7), grid(2, 2)]
    return [Web(rows) for rows in samples]
