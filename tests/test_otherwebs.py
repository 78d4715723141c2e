"""Promise 22: the other web, whose places are the faces."""

import copy
import random
import unittest

from fivehues.errors import Bridge, NotOne
from fivehues.faces import faces, pieces
from fivehues.images import mirrored
from fivehues.keeping import Kept
from fivehues.otherwebs import face_name, other_web
from fivehues.webs import Web
from fivehues.webtexts import read_web, web_text
from tests.helpers import BOW, FOUR, PIECES, SECOND, STAR, TRIANGLE, beside, caps, chance_webs, flat_webs, grid, mixed
from tests.helpers import pairs_round, refusal, ring_rows, rounds, same_rounds, tree_rows

LETTERS = "abcdefghijklmnopqrstuvwxyz"
NAMES = [first + second for first in LETTERS for second in LETTERS]


def bridges(web):
    """The ties that have both their steps on one face."""
    sides = [pairs_round(face) for face in faces(web)]
    return [tie for tie in web.ties() if any(tie in steps and tie[::-1] in steps for steps in sides)]


def thin_webs(many, bridged):
    """Webs of one piece with few ties, as chance has it, but the same ones each time."""
    chance = random.Random(many)
    found = []
    for k in range(many):
        web = Web(mixed(caps(2, 6), chance))
        for one, other in chance.sample(web.ties(), len(web.ties())):
            kept = Kept(web)
            kept.untie(one, other)
            less = kept.web_now()
            if len(less.ties()) > 16 and len(pieces(less)) == 1 and (bridged or not bridges(less)):
                web = less
        found.append(web)
    return found


def webs_with_other():
    """Webs of one piece without such a tie."""
    samples = thin_webs(40, False) + flat_webs() + chance_webs(60) + chance_webs(10, 2, 4) + [read_web(SECOND)]
    samples += [Web(ring_rows(many)) for many in [3, 4, 12]] + [Web(grid(3, 3)), Web(grid(2, 8)), Web(caps(7, 5))]
    return [web for web in samples if len(pieces(web)) == 1 and not bridges(web)]


def by_hand(web, least):
    """The rounds of the other web, by the document's words."""
    told = faces(web)
    names = NAMES[:len(told)]
    side = {step: name for name, face in zip(names, told) for step in pairs_round(face) if len(face) > 1}
    rows = []
    for name, face in zip(names, told):
        around = []
        for step in (pairs_round(face) if len(face) > 1 else []):
            across = side[step[::-1]]
            same = [tie for tie in web.ties() if {side[tie], side[tie[::-1]]} == {name, across}]
            if least(same) == tuple(sorted(step)):
                around.append(across)
        at = around.index(min(around)) if around else 0
        rows.append((name, around[at:] + around[:at]))
    return sorted(rows)


class OtherWeb(unittest.TestCase):
    def test_one_place(self):
        self.assertEqual(rounds(other_web(Web([("q", [])]))), [("aa", [])])

    def test_a_ring(self):
        for many in [3, 4, 5, 16, 40]:
            self.assertEqual(rounds(other_web(Web(ring_rows(many)))), [("aa", ["ab"]), ("ab", ["aa"])])

    def test_small_ones_whole(self):
        # The faces a b d, a c b, a d c, b c d.
        self.assertEqual(
            web_text(other_web(Web(FOUR))), "aa: ab ad ac; ab: aa ac ad; ac: aa ad ab; ad: aa ab ac"
        )
        # The faces a b c a d e, a c b and a e d; of the ties to each the least one counts.
        self.assertEqual(web_text(other_web(Web(BOW))), "aa: ab ac; ab: aa; ac: aa")
        # The faces aa ab ac bc bb ba, aa ba bb ab and ab bb bc ac.
        self.assertEqual(faces(Web(grid(2, 3)))[0], ["aa", "ab", "ac", "bc", "bb", "ba"])
        self.assertEqual(web_text(other_web(Web(grid(2, 3)))), "aa: ab ac; ab: aa ac; ac: aa ab")

    def test_each_web_by_hand(self):
        for web in webs_with_other():
            self.assertEqual(rounds(other_web(web)), by_hand(web, min))

    def test_it_matters_which_tie_counts(self):
        met = [rounds(other_web(web)) != by_hand(web, max) for web in webs_with_other()]
        self.assertGreater(met.count(True), 10)

    def test_many_faces_and_their_names(self):
        web = other_web(Web(caps(2, 7)))
        self.assertEqual(web.places(), NAMES[:28])
        self.assertEqual(web.places()[24:28], ["ay", "az", "ba", "bb"])
        web = other_web(Web(caps(7, 5)))
        self.assertEqual(web.places(), NAMES[:70])
        self.assertEqual({len(web.round_of(place)) for place in web.places()}, {3})

    def test_more_than_forty_places_may_be_handed_in_again(self):
        web = other_web(Web(caps(6, 6)))
        self.assertEqual(len(web.places()), 72)
        again = other_web(web)
        self.assertEqual(len(again.places()), 38)
        self.assertEqual(sorted(len(again.round_of(place)) for place in again.places()),
                         sorted(len(around) for place, around in caps(6, 6)))

    def test_more_faces_than_names_of_two_letters(self):
        self.assertEqual([face_name(at) for at in range(676)], NAMES)
        self.assertEqual([face_name(at) for at in [676, 677, 702]], ["aaa", "aab", "aba"])

    def test_ties_are_where_faces_are_beside_one_another(self):
        for web in webs_with_other():
            sides = dict(zip(NAMES, [pairs_round(face) for face in faces(web)]))
            other = other_web(web)
            self.assertIsInstance(other, Web)
            self.assertEqual(other.places(), sorted(sides))
            for one in sides:
                for two in sides:
                    near = one != two and any(step[::-1] in sides[two] for step in sides[one])
                    self.assertEqual(other.is_tied(one, two), near)

    def test_of_a_web_kept(self):
        chance = random.Random(22)
        kept = Kept(Web(caps()))
        for k in range(60):
            web = kept.web_now()
            if len(web.ties()) > 24 and not bridges(web):
                self.assertEqual(rounds(other_web(web)), by_hand(web, min))
                kept.untie(*chance.choice(web.ties()))


class Refused(unittest.TestCase):
    def test_not_one(self):
        for rows in [[], PIECES, [("a", []), ("b", [])], beside(TRIANGLE, FOUR), beside(STAR, STAR)]:
            self.assertIs(refusal(other_web, Web(rows)), NotOne)

    def assert_bridge(self, web, one, other):
        with self.assertRaises(Bridge) as caught:
            other_web(web)
        self.assertIs(type(caught.exception), Bridge)
        self.assertEqual((caught.exception.one, caught.exception.other), (one, other))

    def test_bridge(self):
        self.assert_bridge(Web([("a", ["b"]), ("b", ["a"])]), "a", "b")
        self.assert_bridge(Web(STAR), "a", "m")
        two = {**dict(beside(TRIANGLE, TRIANGLE)), "c": ["a", "b", "qb"], "qb": ["qa", "qc", "c"]}
        self.assert_bridge(Web(list(two.items())), "c", "qb")
        # Of two such the least one is told, of which one is less than other.
        more = {**two, "z": ["b"], "b": ["a", "c", "z"]}
        self.assert_bridge(Web(list(more.items())), "b", "z")

    def test_the_least_bridge(self):
        chance = random.Random(23)
        met = 0
        samples = thin_webs(30, True) + chance_webs(60, 1, 6) + [Web(tree_rows(many, chance)) for many in [3, 7, 16]]
        for web in samples:
            for image in [web, Web(mixed(rounds(web), chance))]:
                if len(pieces(image)) == 1 and bridges(image):
                    self.assert_bridge(image, *min(bridges(image)))
                    met += 1
        self.assertGreater(met, 10)


class Images(unittest.TestCase):
    def test_as_many_faces_and_ties(self):
        chance = random.Random(24)
        for web in webs_with_other():
            other = other_web(web)
            for image in [mirrored(web), Web(mixed(rounds(web), chance))]:
                self.assertEqual(len(other_web(image).places()), len(other.places()))
                self.assertEqual(len(other_web(image).ties()), len(other.ties()))


class Unchanged(unittest.TestCase):
    def test_asked_again_or_of_another_web_with_the_same_rounds(self):
        for web in webs_with_other():
            ahead = copy.deepcopy(rounds(web))
            told = rounds(other_web(web))
            self.assertEqual(rounds(other_web(web)), told)
            self.assertEqual(rounds(other_web(same_rounds(web))), told)
            self.assertEqual(rounds(web), ahead)


if __name__ == "__main__":
    unittest.main()
