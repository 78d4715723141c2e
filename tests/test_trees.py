"""Promise 17: trees, and the rings that ties make with them."""

import copy
import itertools
import random
import unittest

from fivehues.errors import NoPlace, NoRing
from fivehues.faces import pieces
from fivehues.images import mirrored
from fivehues.trees import ring_of, tree
from fivehues.webs import Web
from tests.helpers import BOW, FOUR, PIECES, STAR, TRIANGLE, beside, caps, chance_webs, come_to, flat_webs, grid
from tests.helpers import is_ring, refusal, ring_rows, rounds, same_rounds, tree_rows


def layers(web, root):
    """The number of each place's layer, told by how often ties must be gone along."""
    found = {root: 0}
    for many in range(1, len(web.places())):
        for place in come_to_once(web, [place for place in found if found[place] == many - 1]):
            found.setdefault(place, many)
    return found


def come_to_once(web, places):
    return [other for place in places for other in web.round_of(place)]


def way_up(parents, place):
    """The places from one of a tree up to its root."""
    way = [place]
    while parents[way[-1]] is not None:
        way.append(parents[way[-1]])
    return way


def ring_by_hand(parents, one, other):
    """The ring of a tie, by its last place on both ways from the root."""
    first, second = way_up(parents, one), way_up(parents, other)
    top = [place for place in first if place in second][0]
    return first[:first.index(top) + 1][::-1] + second[:second.index(top)]


def samples():
    chance = random.Random(17)
    webs = flat_webs() + chance_webs(15) + [Web(tree_rows(many, chance)) for many in [2, 9, 18]]
    return webs + [Web(beside(BOW, caps(1, 4))), Web(beside(ring_rows(7), TRIANGLE))]


class Trees(unittest.TestCase):
    def test_small_ones_whole(self):
        self.assertEqual(tree(Web([("q", [])]), "q"), {"q": None})
        self.assertEqual(tree(Web(STAR), "a"), {"a": None, "m": "a", "b": "m", "c": "m"})
        self.assertEqual(tree(Web(STAR), "m"), {"m": None, "a": "m", "b": "m", "c": "m"})
        self.assertEqual(tree(Web(FOUR), "c"), {"a": "c", "b": "c", "c": None, "d": "c"})
        self.assertEqual(tree(Web(PIECES), "x"), {"x": None, "b": "x", "y": "x"})
        self.assertEqual(tree(Web(PIECES), "d"), {"d": None, "c": "d"})
        self.assertEqual(tree(Web(PIECES), "z"), {"z": None})

    def test_the_least_place_of_the_layer_ahead(self):
        self.assertEqual(tree(Web(grid(2, 2)), "aa"), {"aa": None, "ab": "aa", "ba": "aa", "bb": "ab"})
        self.assertEqual(tree(Web(ring_rows(6)), "ac")["af"], "aa")
        # Both b and z of the layer ahead are tied to k.
        rows = [("r", ["z", "b", "c"]), ("z", ["r", "k"]), ("b", ["k", "r"]), ("k", ["b", "z"]), ("c", ["r"])]
        self.assertEqual(tree(Web(rows), "r"), {"r": None, "b": "r", "c": "r", "z": "r", "k": "b"})
        # The least of the layer ahead is not the one that was come to first.
        rows = [("r", ["b", "c"]), ("b", ["r", "z"]), ("c", ["r", "a"]), ("z", ["b", "k"]), ("a", ["c", "k"]),
                ("k", ["a", "z"])]
        self.assertEqual(tree(Web(rows), "r")["k"], "a")

    def test_each_root(self):
        for web in samples():
            for root in web.places():
                told = tree(web, root)
                self.assertIsInstance(told, dict)
                self.assertEqual(sorted(told), come_to(web, [root]))
                layer = layers(web, root)
                self.assertIsNone(told[root])
                for place in told:
                    if place != root:
                        ahead = [other for other in web.round_of(place) if layer[other] == layer[place] - 1]
                        self.assertEqual(told[place], min(ahead))

    def test_no_place(self):
        for web in [Web([]), Web(TRIANGLE), Web(PIECES)]:
            for name in ["q", "aa", "abcdefgh"]:
                self.assertIs(refusal(tree, web, name), NoPlace)


class Rings(unittest.TestCase):
    def test_small_ones_whole(self):
        web = Web(TRIANGLE)
        self.assertEqual(ring_of(web, "a", "b", "c"), ["a", "b", "c"])
        self.assertEqual(ring_of(web, "a", "c", "b"), ["a", "c", "b"])
        self.assertEqual(ring_of(web, "b", "c", "a"), ["b", "c", "a"])
        web = Web(grid(2, 2))
        self.assertEqual(ring_of(web, "aa", "ba", "bb"), ["aa", "ba", "bb", "ab"])
        self.assertEqual(ring_of(web, "aa", "bb", "ba"), ["aa", "ab", "bb", "ba"])

    def test_the_root_off_the_ring(self):
        web = Web(BOW)
        self.assertEqual(ring_of(web, "b", "d", "e"), ["a", "d", "e"])
        self.assertEqual(ring_of(web, "b", "e", "d"), ["a", "e", "d"])
        rows = grid(1, 3) + [("z", ["ac", "y"]), ("y", ["z", "ac"])]
        rows = [(place, around + ["y", "z"] if place == "ac" else around) for place, around in rows]
        self.assertEqual(ring_of(Web(rows), "aa", "z", "y"), ["ac", "z", "y"])

    def test_each_root_and_tie(self):
        met = []
        for web in samples():
            for root in web.places():
                parents = tree(web, root)
                for one, other in [tie for tie in web.ties() if tie[0] in parents]:
                    if parents[one] == other or parents[other] == one:
                        continue
                    for first, second in [(one, other), (other, one)]:
                        ring = ring_of(web, root, first, second)
                        self.assertEqual(ring, ring_by_hand(parents, first, second))
                        self.assertTrue(is_ring(web, ring))
                        self.assertEqual(ring[ring.index(first) + 1], second)
                        met.append(root in ring)
        self.assertGreater(min(met.count(True), met.count(False)), 1000)

    def test_rings_of_one_tie_either_way_round(self):
        for web in [Web(caps()), Web(grid(3, 4))]:
            for root in web.places():
                for one, other in web.ties():
                    if refusal(ring_of, web, root, one, other) is None:
                        ring = ring_of(web, root, one, other)
                        self.assertEqual(ring_of(web, root, other, one), ring[:1] + ring[:0:-1])


class RefusedRings(unittest.TestCase):
    def test_no_place(self):
        for rows in [TRIANGLE, PIECES]:
            web = Web(rows)
            for root, one, other in [("q", "b", "x"), ("b", "q", "x"), ("b", "x", "q"), ("q", "q", "q")]:
                self.assertIs(refusal(ring_of, web, root, one, other), NoPlace)
        web = Web(TRIANGLE)
        self.assertIs(refusal(ring_of, web, "q", "b", "c"), NoPlace)
        self.assertIs(refusal(ring_of, web, "a", "q", "c"), NoPlace)
        self.assertIs(refusal(ring_of, web, "a", "b", "q"), NoPlace)
        self.assertIs(refusal(ring_of, Web([]), "a", "b", "c"), NoPlace)

    def test_no_place_goes_first(self):
        web = Web(STAR)
        self.assertIs(refusal(ring_of, web, "q", "a", "b"), NoPlace)
        self.assertIs(refusal(ring_of, web, "q", "a", "m"), NoPlace)
        self.assertIs(refusal(ring_of, web, "a", "q", "q"), NoPlace)
        self.assertIs(refusal(ring_of, web, "a", "m", "q"), NoPlace)

    def test_each_three_places(self):
        for web in [Web(rows) for rows in [TRIANGLE, FOUR, BOW, STAR, PIECES, grid(2, 3), beside(TRIANGLE, FOUR)]]:
            for root, one, other in itertools.product(web.places(), repeat=3):
                parents = tree(web, root)
                tied = web.is_tied(one, other) and one in parents and other in parents
                makes = tied and parents[one] != other and parents[other] != one
                self.assertIs(refusal(ring_of, web, root, one, other), None if makes else NoRing)

    def test_no_ring(self):
        web = Web(beside(BOW, TRIANGLE))
        # Not tied, one place, tied in another piece, a place and its parent either way round.
        for root, one, other in [
            ("a", "b", "d"), ("a", "b", "b"), ("a", "a", "a"), ("a", "qb", "qc"), ("qa", "b", "c"), ("a", "b", "qb"),
            ("a", "qb", "b"), ("a", "a", "b"), ("a", "b", "a"), ("b", "d", "a"), ("b", "a", "d"), ("qb", "qb", "qc"),
        ]:
            self.assertIs(refusal(ring_of, web, root, one, other), NoRing, (root, one, other))

    def test_a_web_of_several_pieces(self):
        web = Web(beside(caps(1, 4), caps(1, 3)))
        self.assertEqual(len(pieces(web)), 2)
        self.assertIsNone(refusal(ring_of, web, "qnorth", "qaa", "qab"))
        self.assertIs(refusal(ring_of, web, "north", "qaa", "qab"), NoRing)


class Images(unittest.TestCase):
    def test_mirrored(self):
        for web in samples():
            for root in web.places():
                self.assertEqual(tree(mirrored(web), root), tree(web, root))
        self.assertEqual(ring_of(mirrored(Web(BOW)), "b", "d", "e"), ["a", "d", "e"])


class Unchanged(unittest.TestCase):
    def test_asked_again_or_of_another_web_with_the_same_rounds(self):
        for web in samples():
            ahead = rounds(web)
            for root in web.places()[:4]:
                told = tree(web, root)
                kept = copy.deepcopy(told)
                told.clear()
                self.assertEqual(tree(web, root), kept)
                self.assertEqual(tree(same_rounds(web), root), kept)
                for one, other in web.ties():
                    if refusal(ring_of, web, root, one, other) is None:
                        ring = ring_of(web, root, one, other)
                        kept_ring = list(ring)
                        ring.clear()
                        self.assertEqual(ring_of(web, root, one, other), kept_ring)
                        self.assertEqual(ring_of(same_rounds(web), root, one, other), kept_ring)
            self.assertEqual(rounds(web), ahead)


if __name__ == "__main__":
    unittest.main()
