"""Rows of webs, and things that are no names, for several tests."""

import random

from fivehues.errors import HueError
from fivehues.images import mirrored
from fivehues.webs import Web
from fivehues.webtexts import read_web

NO_NAMES = [
    "", "abcdefghi", "A", "aB", "Ab", "a1", "7", "a b", " a", "a ", "a\n", "a-b", "_", "`", "{", "~",
    0, 1, -3, True, False, None, [], ["a"], (), ("a",), {}, {"a": "b"}, b"", b"a", object(),
]

TRIANGLE = [("a", ["b", "c"]), ("b", ["a", "c"]), ("c", ["a", "b"])]

# Four places, each tied to each.
FOUR = [
    ("a", ["b", "c", "d"]),
    ("b", ["a", "d", "c"]),
    ("c", ["a", "b", "d"]),
    ("d", ["a", "c", "b"]),
]

# Two triangles that share the place a.
BOW = [
    ("a", ["b", "c", "d", "e"]),
    ("b", ["a", "c"]),
    ("c", ["a", "b"]),
    ("d", ["a", "e"]),
    ("e", ["a", "d"]),
]

# A place with three others, each tied to it alone.
STAR = [("m", ["a", "b", "c"]), ("a", ["m"]), ("b", ["m"]), ("c", ["m"])]

# A triangle, a tie by itself and two places without ties.
PIECES = [
    ("z", []),
    ("b", ["x", "y"]),
    ("x", ["y", "b"]),
    ("y", ["b", "x"]),
    ("d", ["c"]),
    ("c", ["d"]),
    ("a", []),
]

# Seventeen places whose first one in the order meets five hues when it comes back, so that it gets the sixth.
SIXTH = (
    "aa: ad bd cd bb south; ab: ac ba bd ad bc; ac: ab bc north cb ca ba; ad: aa south bc ab bd; ae: ba ca ce cc cd; "
    "ba: ab ac ca ae cd bd; bb: aa cd cc be north south; bc: ab ad south north ac; bd: aa ad ab ba cd; "
    "be: bb cc ce cb north; ca: ac cb ce ae ba; cb: ac north be ce ca; cc: ae ce be bb cd; cd: aa bd ba ae cc bb; "
    "ce: ae ca cb be cc; north: ac bc south bb be cb; south: aa bb north bc ad"
)

# Sixteen places whose first one in the order meets five hues when it comes back, the first of its round being
# chained to the third: so the second and the fourth are exchanged.
SECOND = (
    "aa: af ag an south ah; ab: ad af ah aj al; ac: ad al am north ai; ad: ab al ac ai af; "
    "ae: ag north am ak an; af: aa ah ab ad ai ag; ag: aa af ai north ae an; ah: aa south aj ab af; "
    "ai: ac north ag af ad; aj: ab ah south ak am al; ak: ae am aj south an; al: ab aj am ac ad; "
    "am: ac al aj ak ae north; an: aa ag ae ak south; north: ac am ae ag ai; south: aa an ak aj ah"
)

# Webs with held places. The first four get four hues: by one try that is the first one, or the twelfth; by two
# tries; one place behind another by one, one and two tries. Of the others one place goes through all its tries.
EARLY = (
    "aa: ab bb bc ad; ab: aa ad south ac north bb; ac: ab south north; ad: aa bc bd south ab; "
    "ba: bb south bd bc; bb: aa ab north south ba bc; bc: aa bb ba bd ad; bd: ad bc ba south; "
    "north: ab ac south bb; south: ab ad bd ba bb north ac"
)

ONE_TRY = (
    "aa: ac ag ak aj north; ab: ad ah aj ak al; ac: aa north ae ai ag; ad: ab al af south ah; "
    "ae: ac north ah south ai; af: ad al ag ai south; ag: aa ac ai af al ak; ah: ab ad south ae north aj; "
    "ai: ac ae south af ag; aj: aa ak ab ah north; ak: aa ag al ab aj; al: ab ak ag af ad; "
    "north: aa aj ah ae ac; south: ad af ai ae ah"
)

TWO_TRIES = (
    "aa: af ah al north ag; ab: ac ai af aj ak; ac: ab ak south ad ai; ad: ac south al ah ai; "
    "ae: ag north south ak aj; af: aa ag aj ab ai ah; ag: aa north ae aj af; ah: aa af ai ad al; "
    "ai: ab ac ad ah af; aj: ab af ag ae ak; ak: ab aj ae south ac; al: aa ah ad south north; "
    "north: aa al south ae ag; south: ac ak ae north al ad"
)

THREE_HELD = (
    "aa: ac aj ak ag ai south; ab: ac south ae ad al; ac: aa south ab al aj; ad: ab ae ah am al; "
    "ae: ab south ai an ah ad; af: ag ak north am ah an; ag: aa ak af an ai; ah: ad ae an af am; "
    "ai: aa ag an ae south; aj: aa ac al north ak; ak: aa aj north af ag; al: ab ad am north aj ac; "
    "am: ad ah af north al; an: ae ai ag af ah; north: af ak aj al am; south: aa ai ae ab ac"
)

NEVER = (
    "aa: ab an ai ad ac; ab: aa ac south af al an; ac: aa ad ak south ab; ad: aa ai ao ak ac; "
    "ae: ag ai an al ah; af: ab south aj am ah al; ag: ae ah am north ao ai; ah: ae al af am ag; "
    "ai: aa an ae ag ao ad; aj: af south ak north am; ak: ac ad ao north aj south; al: ab af ah ae an; "
    "am: af aj north ag ah; an: aa ab al ae ai; ao: ad ai ag north ak; north: ag am aj ak ao; "
    "south: ab ac ak aj af"
)

LATE_NEVER = (
    "aa: ad north aj ai ah; ab: ac al ah ai af an; ac: ab an ao ae al; ad: aa ah al ae ak north; "
    "ae: ac ao ak ad al; af: ab ai ag am an; ag: af ai aj south am; ah: aa ai ab al ad; ai: aa aj ag af ab ah; "
    "aj: aa north south ag ai; ak: ad ae ao south north; al: ab ac ae ad ah; am: af ag south ao an; "
    "an: ab af am ao ac; ao: ac an am south ak ae; north: aa ad ak south aj; south: ag aj north ak ao am"
)


def twisted(first="a"):
    """Four places, each tied to each, one round turned about: not flat, with two faces."""
    p, q, r, s = [chr(ord(first) + k) for k in range(4)]
    return [(p, [s, r, q]), (q, [p, s, r]), (r, [p, q, s]), (s, [p, r, q])]


def grid(high=5, wide=8, closed=False):
    """Places in rows and columns; closed ones are tied round about, as on a wheel's tube."""
    rows = []
    for y in range(high):
        for x in range(wide):
            beside = [(y, x + 1), (y + 1, x), (y, x - 1), (y - 1, x)]
            if closed:
                beside = [(b % high, a % wide) for b, a in beside]
            beside = [(b, a) for b, a in beside if 0 <= b < high and 0 <= a < wide]
            rows.append((grid_name(y, x), [grid_name(b, a) for b, a in beside]))
    return rows


def grid_name(y, x):
    return chr(ord("a") + y) + chr(ord("a") + x)


def caps(high=2, wide=5):
    """Two caps with closed rows of places between them, all faces of three places; caps() has five ties each."""
    rows = [("north", [grid_name(0, x) for x in range(wide)])]
    for y in range(high):
        for x in range(wide):
            above = [grid_name(y - 1, (x + 1) % wide), grid_name(y - 1, x)] if y else ["north"]
            below = [grid_name(y + 1, (x - 1) % wide), grid_name(y + 1, x)] if y < high - 1 else ["south"]
            around = [grid_name(y, (x + 1) % wide)] + above + [grid_name(y, (x - 1) % wide)] + below
            rows.append((grid_name(y, x), around))
    return rows + [("south", [grid_name(high - 1, -x % wide) for x in range(wide)])]


def thinned(rows, chance):
    """Rows without some of their places and ties, as chance has it: flat as well."""
    kept = [place for place, around in rows if chance.random() < 0.95]
    ties = [(one, other) for one, around in rows for other in around if one < other]
    gone = [tie for tie in ties if chance.random() < 0.1]
    gone += [(other, one) for one, other in gone]
    return [
        (place, [other for other in around if other in kept and (place, other) not in gone])
        for place, around in rows
        if place in kept
    ]


def mixed(rows, chance):
    """Rows with their names exchanged among their places, as chance has it."""
    names = [place for place, around in rows]
    others = chance.sample(names, len(names))
    new = dict(zip(names, others))
    return [(new[place], [new[other] for other in around]) for place, around in rows]


def rounds(web):
    """All that a web tells of itself."""
    return [(place, web.round_of(place)) for place in web.places()]


def flat_webs():
    """Webs of many kinds, all of them flat."""
    samples = [[], [("a", [])], TRIANGLE, FOUR, BOW, STAR, PIECES, grid(), grid(1, 7), grid(2, 2)]
    samples += [caps(high, wide) for high, wide in [(1, 3), (2, 5), (3, 5), (2, 7), (6, 6)]]
    return [Web(rows) for rows in samples]


def chance_webs(many, high=3, wide=5):
    """Flat webs by chance, but the same ones each time."""
    chance = random.Random(many)
    return [Web(mixed(thinned(caps(high, wide), chance), chance)) for k in range(many)]


def five_webs():
    """Webs for five hues, each also mirrored and with its names exchanged among its places."""
    samples = flat_webs() + [Web(caps(high, wide)) for high in range(2, 7) for wide in range(5, 8)]
    samples += [read_web(text) for text in [SIXTH, SECOND, THREE_HELD, NEVER]]
    chance = random.Random(5)
    images = [mirrored(web) for web in samples] + [Web(mixed(rounds(web), chance)) for web in samples]
    return samples + images


def same_rounds(web):
    """Another web with the same rounds, made of other rows."""
    return Web([(place, around[1:] + around[:1]) for place, around in rounds(web)[::-1]])


def spoil(paper):
    """Change a told paper, and all that stands in it, as an asker may."""
    for place, hue, swaps in paper:
        for start, other, places in swaps:
            places.clear()
        swaps.append("q")
    paper.clear()


def beside(rows, other, first="q"):
    """Rows, and other ones with a letter ahead of their names: together several pieces."""
    return rows + [(first + place, [first + name for name in around]) for place, around in other]


def ring_rows(many):
    """A ring of so many places, their names in the order of the ring."""
    names = [grid_name(at // 26, at % 26) for at in range(many)]
    return [(names[at], [names[(at + 1) % many], names[at - 1]]) for at in range(many)]


def tree_rows(many, chance):
    """So many places, each but the first tied to one of those ahead of it, as chance has it."""
    names = [grid_name(at // 26, at % 26) for at in range(many)]
    around = {name: [] for name in names}
    for at in range(1, many):
        one = names[chance.randrange(at)]
        around[one].insert(chance.randrange(len(around[one]) + 1), names[at])
        around[names[at]].append(one)
    return mixed(list(around.items()), chance)


def pairs_round(names):
    """Each of a list with the next one, the last with the first."""
    return list(zip(names, names[1:] + names[:1]))


def is_ring(web, ring):
    """Whether a list is a ring of a web, by the document's words."""
    tied = all(web.is_tied(one, other) for one, other in pairs_round(ring))
    return isinstance(ring, list) and len(ring) >= 3 and len(set(ring)) == len(ring) and tied


def all_rings(web):
    """All rings of a web, each gone along either way round and from each of its places on."""
    found = []
    ways = [[place] for place in web.places()]
    while ways:
        way = ways.pop()
        if is_ring(web, way):
            found.append(way)
        ways += [way + [other] for other in web.round_of(way[-1]) if other not in way]
    return found


def come_to(web, starts, without=()):
    """All that are come to from some places by ties, themselves too, without some others."""
    found = [start for start in starts if start not in without]
    while True:
        more = {other for place in found for other in web.round_of(place)} - set(found) - set(without)
        if not more:
            return sorted(set(found))
        found += sorted(more)


def are_right(web, hues):
    """Whether hues are right, by the document's words."""
    just = isinstance(hues, dict) and sorted(hues) == web.places() and all(type(hues[p]) is int for p in hues)
    return just and all(hues[one] != hues[other] and min(hues[one], hues[other]) >= 0 for one, other in web.ties())


def refusal(call, *things):
    """The class of the refusal that a call meets, or None where it is not refused."""
    try:
        call(*things)
    except HueError as error:
        return type(error)
    return None
