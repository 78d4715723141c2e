"""Promise 15: two hues, or a ring of an odd number."""

import copy
import random
import unittest

from fivehues.faces import pieces
from fivehues.images import mirrored
from fivehues.twohues import two_hues
from fivehues.webs import Web
from tests.helpers import BOW, FOUR, PIECES, STAR, TRIANGLE, are_right, beside, caps, chance_webs, flat_webs, grid
from tests.helpers import is_ring, mixed, ring_rows, rounds, same_rounds, tree_rows


class TwoHues(unittest.TestCase):
    def assert_hues(self, web):
        told = two_hues(web)
        self.assertIsInstance(told, tuple)
        kind, hues = told
        self.assertEqual(kind, "hues")
        self.assertTrue(are_right(web, hues))
        self.assertLessEqual(set(hues.values()), {0, 1})
        self.assertEqual([hues[piece[0]] for piece in pieces(web)], [0] * len(pieces(web)))

    def assert_ring(self, web):
        told = two_hues(web)
        self.assertIsInstance(told, tuple)
        kind, ring = told
        self.assertEqual(kind, "ring")
        self.assertTrue(is_ring(web, ring), ring)
        self.assertEqual(len(ring) % 2, 1)

    def assert_either(self, web):
        # Each of the two tells by itself that the other one is not there.
        if two_hues(web)[0] == "hues":
            self.assert_hues(web)
        else:
            self.assert_ring(web)

    def test_no_places_and_one(self):
        self.assertEqual(two_hues(Web([])), ("hues", {}))
        self.assertEqual(two_hues(Web([("q", [])])), ("hues", {"q": 0}))

    def test_small_ones_whole(self):
        self.assertEqual(two_hues(Web([("a", ["b"]), ("b", ["a"])])), ("hues", {"a": 0, "b": 1}))
        self.assertEqual(two_hues(Web(STAR)), ("hues", {"a": 0, "b": 0, "c": 0, "m": 1}))
        told = two_hues(Web(PIECES[:1] + PIECES[4:]))
        self.assertEqual(told, ("hues", {"a": 0, "c": 0, "d": 1, "z": 0}))
        kind, ring = two_hues(Web(TRIANGLE))
        self.assertEqual((kind, sorted(ring)), ("ring", ["a", "b", "c"]))

    def test_trees(self):
        chance = random.Random(15)
        for many in [2, 3, 5, 12, 18, 40]:
            for k in range(5):
                self.assert_hues(Web(tree_rows(many, chance)))

    def test_rings(self):
        chance = random.Random(16)
        for many in range(3, 41):
            for rows in [ring_rows(many), mixed(ring_rows(many), chance)]:
                if many % 2 == 0:
                    self.assert_hues(Web(rows))
                else:
                    self.assert_ring(Web(rows))
                    self.assertEqual(len(two_hues(Web(rows))[1]), many)

    def test_several_pieces(self):
        self.assert_hues(Web(beside(grid(2, 3), STAR)))
        self.assert_hues(Web(beside(beside(ring_rows(6), ring_rows(4)), [("a", [])], "z")))
        self.assert_ring(Web(PIECES))
        # The odd ring stands in the first piece, or in the last one alone.
        self.assert_ring(Web(beside(TRIANGLE, ring_rows(4))))
        self.assert_ring(Web(beside(ring_rows(4), TRIANGLE)))
        self.assert_ring(Web(beside(beside(ring_rows(6), grid(2, 2)), ring_rows(5), "z")))

    def test_webs_of_eighteen_and_of_forty(self):
        self.assert_hues(Web(grid(3, 6)))
        self.assert_hues(Web(grid()))
        self.assert_ring(Web(caps(2, 8)))
        self.assert_ring(Web(caps(2, 19)))
        self.assert_ring(Web(BOW))
        self.assert_ring(Web(FOUR))

    def test_an_odd_ring_far_from_the_least_place(self):
        rows = dict(ring_rows(7))
        rows["ag"] = ["aa", "b", "af"]
        rows["b"] = ["ag", "c"]
        rows["c"] = ["b"]
        names = dict(zip(sorted(rows), "tuvwxyzba"))
        web = Web([(names[place], [names[other] for other in around]) for place, around in rows.items()])
        self.assert_ring(web)
        self.assertEqual(len(two_hues(web)[1]), 7)

    def test_by_chance(self):
        chance = random.Random(17)
        met = []
        for web in flat_webs() + chance_webs(60) + chance_webs(20, 4, 9):
            self.assert_either(web)
            thin = [tie for tie in web.ties() if chance.random() < 0.4]
            rows = [
                (place, [other for other in around if (min(place, other), max(place, other)) in thin])
                for place, around in rounds(web)
            ]
            self.assert_either(Web(rows))
            met += [two_hues(web)[0], two_hues(Web(rows))[0]]
        self.assertGreater(min(met.count("hues"), met.count("ring")), 10)


class Images(unittest.TestCase):
    def test_mirrored_and_renamed(self):
        chance = random.Random(18)
        for web in flat_webs() + chance_webs(20) + [Web(grid(3, 6)), Web(ring_rows(9)), Web(ring_rows(10))]:
            kind, told = two_hues(web)
            self.assertEqual(two_hues(mirrored(web))[0], kind)
            self.assertEqual(two_hues(Web(mixed(rounds(web), chance)))[0], kind)
            if kind == "hues":
                self.assertEqual(two_hues(mirrored(web))[1], told)


class Unchanged(unittest.TestCase):
    def test_asked_again_or_of_another_web_with_the_same_rounds(self):
        for web in flat_webs() + chance_webs(10):
            ahead = rounds(web)
            told = two_hues(web)
            kept = copy.deepcopy(told)
            told[1].clear()
            self.assertEqual(two_hues(web), kept)
            self.assertEqual(two_hues(same_rounds(web)), kept)
            self.assertEqual(rounds(web), ahead)


if __name__ == "__main__":
    unittest.main()
