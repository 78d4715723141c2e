"""Promises 18 and 19: the lots of a ring, and webs parted by rings."""

import copy
import random
import unittest

from fivehues.errors import NoPlace, NoRing, NotOne
from fivehues.faces import pieces
from fivehues.images import mirrored, renamed
from fivehues.partings import lots, parting
from fivehues.trees import ring_of, tree
from fivehues.webs import Web
from tests.helpers import BOW, FOUR, PIECES, STAR, TRIANGLE, all_rings, beside, caps, chance_webs, come_to, flat_webs
from tests.helpers import grid, is_ring, pairs_round, refusal, ring_rows, rounds, same_rounds, tree_rows

# A ring a, b, c, d with in and inner at its left hand, out at its right hand.
BOTH = [
    ("a", ["b", "in", "d", "out"]),
    ("b", ["a", "c"]),
    ("c", ["b", "d"]),
    ("d", ["a", "c"]),
    ("in", ["a", "inner"]),
    ("inner", ["in"]),
    ("out", ["a"]),
]


def hands(web, ring):
    """Those at the left hand and at the right hand of a ring, by walks round each of its places."""
    left, right = [], []
    for (before, place), (same, behind) in zip(pairs_round(ring), pairs_round(ring)[1:] + pairs_round(ring)[:1]):
        around = web.round_of(place) * 3
        walk = around[around.index(behind) + 1:]
        left += walk[:walk.index(before)]
        walk = around[around.index(before) + 1:]
        right += walk[:walk.index(behind)]
    return left, right


def lots_by_hand(web, ring):
    return tuple(come_to(web, at_hand, ring) for at_hand in hands(web, ring))


def all_partings(web, root):
    """Of each ring that a tie makes with a root's tree: its worth, the ring, its lots."""
    parents = tree(web, root)
    found = []
    for one, other in web.ties():
        if parents[one] != other and parents[other] != one:
            ring = ring_of(web, root, one, other)
            left, right = lots_by_hand(web, ring)
            found.append(((max(len(left), len(right)), len(ring), one, other), (ring, left, right)))
    return found


class Lots(unittest.TestCase):
    def assert_lots(self, web, ring):
        told = lots(web, ring)
        self.assertIsInstance(told, tuple)
        left, right = told
        self.assertIsInstance(left, list)
        self.assertIsInstance(right, list)
        for lot in told:
            self.assertEqual(lot, sorted(set(lot)))
        self.assertEqual(sorted(left + right + ring), come_to(web, ring[:1]))
        steps = web.ties() + [(other, one) for one, other in web.ties()]
        self.assertEqual([step for step in steps if step[0] in left and step[1] in right], [])
        at_left, at_right = hands(web, ring)
        self.assertLessEqual(set(at_left) - set(ring), set(left))
        self.assertLessEqual(set(at_right) - set(ring), set(right))
        self.assertEqual(told, lots_by_hand(web, ring))

    def test_at_both_hands(self):
        web = Web(BOTH)
        self.assertEqual(lots(web, ["a", "b", "c", "d"]), (["in", "inner"], ["out"]))
        self.assertEqual(lots(web, ["d", "c", "b", "a"]), (["out"], ["in", "inner"]))
        self.assertEqual(lots(web, ["c", "d", "a", "b"]), (["in", "inner"], ["out"]))

    def test_at_one_hand_and_at_none(self):
        self.assertEqual(lots(Web(TRIANGLE), ["a", "b", "c"]), ([], []))
        self.assertEqual(lots(Web(ring_rows(5)), ["ab", "aa", "ae", "ad", "ac"]), ([], []))
        self.assertEqual(lots(Web(FOUR), ["a", "b", "c"]), ([], ["d"]))
        self.assertEqual(lots(Web(FOUR), ["c", "b", "a"]), (["d"], []))
        web = Web(grid(2, 3))
        self.assertEqual(lots(web, ["aa", "ab", "bb", "ba"]), ([], ["ac", "bc"]))
        self.assertEqual(lots(web, ["ba", "bb", "ab", "aa"]), (["ac", "bc"], []))

    def test_the_left_hand_is_as_the_round_stands(self):
        # Round a stand b, in, d, out: behind the next one, b, and ahead of the one before, d, stands in.
        rows = [("a", ["b", "in", "d"]), ("b", ["a", "c"]), ("c", ["b", "d"]), ("d", ["a", "c"]), ("in", ["a"])]
        self.assertEqual(lots(Web(rows), ["a", "b", "c", "d"]), (["in"], []))
        self.assertEqual(lots(mirrored(Web(rows)), ["a", "b", "c", "d"]), ([], ["in"]))

    def test_a_tie_across_the_ring(self):
        # The ring a, b, c, d has a tie from a to c at its left hand, a place at its right hand.
        rows = [("a", ["b", "c", "d", "m"]), ("b", ["a", "c"]), ("c", ["a", "b", "d"]), ("d", ["a", "c"]), ("m", ["a"])]
        web = Web(rows)
        self.assertEqual(lots(web, ["a", "b", "c", "d"]), ([], ["m"]))
        for ring in all_rings(web):
            self.assert_lots(web, ring)

    def test_each_ring_of_some_webs(self):
        for rows in [TRIANGLE, FOUR, BOW, BOTH, PIECES, STAR, grid(2, 4), grid(3, 3), caps(1, 4), beside(BOTH, BOW)]:
            web = Web(rows)
            for ring in all_rings(web):
                self.assert_lots(web, ring)

    def test_each_ring_of_trees_by_chance(self):
        for web in flat_webs() + chance_webs(15):
            for root in web.places()[:5]:
                for one, other in web.ties():
                    if refusal(ring_of, web, root, one, other) is None:
                        self.assert_lots(web, ring_of(web, root, one, other))

    def test_either_way_round_and_from_any_place_on(self):
        for rows in [BOTH, caps(1, 5), grid(3, 3), BOW]:
            web = Web(rows)
            for ring in all_rings(web)[:40]:
                told = lots(web, ring)
                for at in range(len(ring)):
                    turned = ring[at:] + ring[:at]
                    self.assertEqual(lots(web, turned), told)
                    self.assertEqual(lots(web, turned[::-1]), told[::-1])

    def test_nobody_of_another_piece(self):
        web = Web(beside(BOTH, BOTH) + [("z", [])])
        self.assertEqual(lots(web, ["a", "b", "c", "d"]), (["in", "inner"], ["out"]))
        self.assertEqual(lots(web, ["qa", "qb", "qc", "qd"]), (["qin", "qinner"], ["qout"]))

    def test_no_ring(self):
        web = Web(beside(BOTH, TRIANGLE))
        for names in [
            [], ["a"], ["a", "b"], ["b", "a"], ["a", "a", "a"], ["a", "b", "a"], ["a", "b", "c", "d", "a"],
            ["a", "b", "a", "d"], ["a", "b", "c", "d", "a", "b", "c", "d"], ["a", "b", "c"], ["a", "b", "d", "c"],
            ["a", "c", "b", "d"], ["b", "c", "d"], ["a", "b", "c", "d", "in"], ["in", "a", "out"], ["q"],
            ["qa", "qb", "q"], ["q", "qa", "qb"], ["qa", "qb", "qc", "q"], ["x", "y", "z"], ["a", "b", "qa"],
            ["qa", "qb"], ["qa", "qa", "qb", "qc"], ["in", "inner", "in"], ["a", "in", "inner", "in"],
        ]:
            self.assertIs(refusal(lots, web, names), NoRing, names)
        self.assertIsNone(refusal(lots, web, ["qa", "qb", "qc"]))
        for names in [[], ["a"], ["a", "b", "c"]]:
            self.assertIs(refusal(lots, Web([]), names), NoRing)

    def test_each_list_of_names(self):
        web = Web(FOUR + [("e", [])])
        names = ["a", "b", "c", "d", "e", "f"]
        lists = [[one, other, third] for one in names for other in names for third in names]
        for row in lists + [row + [name] for row in lists for name in names]:
            self.assertIs(refusal(lots, web, row), None if is_ring(web, row) else NoRing)


class Partings(unittest.TestCase):
    def assert_parting(self, web, root):
        told = parting(web, root)
        found = all_partings(web, root)
        if not found:
            self.assertIsNone(told)
            return
        self.assertIsInstance(told, tuple)
        self.assertEqual(told, min(found)[1])
        self.assertTrue(is_ring(web, told[0]))
        self.assertEqual(lots(web, told[0]), told[1:])

    def webs(self):
        one_piece = [web for web in flat_webs() + chance_webs(40) if len(pieces(web)) == 1]
        return one_piece + [Web(rows) for rows in [BOTH, grid(3, 6), caps(4, 4), ring_rows(8)]]

    def test_each_root(self):
        for web in self.webs():
            for root in web.places():
                self.assert_parting(web, root)

    def test_small_ones_whole(self):
        self.assertEqual(parting(Web(TRIANGLE), "a"), (["a", "b", "c"], [], []))
        self.assertEqual(parting(Web(TRIANGLE), "b"), (["b", "a", "c"], [], []))
        # The tie of b and c is less than that of d and e, all else alike.
        self.assertEqual(parting(Web(BOW), "a")[0], ["a", "b", "c"])
        self.assertEqual(parting(Web(BOTH), "a"), (["a", "b", "c", "d"], ["in", "inner"], ["out"]))

    def test_the_greater_lot_goes_ahead_of_the_ring(self):
        # A ring of three that is tied to out is the shorter one, but leaves all else in one lot.
        rows = BOTH[:-1] + [("out", ["a", "x", "y"]), ("x", ["out", "y"]), ("y", ["out", "x"])]
        told = parting(Web(rows), "a")
        self.assertEqual(told, (["a", "b", "c", "d"], ["in", "inner"], ["out", "x", "y"]))

    def test_each_worth_decides_somewhere(self):
        met = set()
        for web in self.webs():
            for root in web.places():
                worths = sorted(worth for worth, what in all_partings(web, root))
                if len(worths) > 1:
                    first, second = worths[:2]
                    met.add([first[at] != second[at] for at in range(4)].index(True))
                    if first[1] > min(worth[1] for worth in worths):
                        met.add("not the shortest")
        self.assertLessEqual({0, 1, 2, "not the shortest"}, met)

    def test_trees_and_one_place(self):
        chance = random.Random(19)
        self.assertIsNone(parting(Web([("a", [])]), "a"))
        for web in [Web(STAR)] + [Web(tree_rows(many, chance)) for many in [2, 5, 12, 18, 40]]:
            for root in web.places():
                self.assertIsNone(parting(web, root))

    def test_no_place(self):
        for web in [Web([]), Web([("a", [])]), Web(TRIANGLE), Web(PIECES), Web(grid())]:
            for name in ["q", "zz", "abcdefgh"]:
                self.assertIs(refusal(parting, web, name), NoPlace)

    def test_several_pieces(self):
        for web in [Web(PIECES), Web([("a", []), ("b", [])]), Web(beside(FOUR, FOUR)), Web(beside(STAR, [("a", [])]))]:
            for root in web.places():
                self.assertIs(refusal(parting, web, root), NotOne)


class Images(unittest.TestCase):
    def test_lots_are_exchanged_by_mirroring(self):
        for rows in [FOUR, BOW, BOTH, grid(2, 4), caps(1, 5), beside(BOTH, BOW)]:
            web = Web(rows)
            for ring in all_rings(web)[::7]:
                self.assertEqual(lots(mirrored(web), ring), lots(web, ring)[::-1])

    def test_parting_of_the_mirrored_web(self):
        for web in chance_webs(20) + [Web(grid(3, 6)), Web(caps()), Web(BOTH)]:
            if len(pieces(web)) == 1:
                for root in web.places():
                    told = parting(web, root)
                    image = parting(mirrored(web), root)
                    self.assertEqual(image, told and (told[0], told[2], told[1]))

    def test_renamed(self):
        chance = random.Random(29)
        for rows in [FOUR, BOW, BOTH, caps(1, 5)]:
            web = Web(rows)
            names = dict(zip(web.places(), chance.sample(["n" + place for place in web.places()], len(rows))))
            for ring in all_rings(web)[::5]:
                told = lots(renamed(web, names), [names[place] for place in ring])
                self.assertEqual(told, tuple(sorted(names[place] for place in lot) for lot in lots(web, ring)))


class Unchanged(unittest.TestCase):
    def test_lots_asked_again_or_of_another_web_with_the_same_rounds(self):
        for rows in [BOTH, caps(1, 4), BOW]:
            web = Web(rows)
            ahead = rounds(web)
            for ring in all_rings(web)[::5]:
                ring_ahead = list(ring)
                told = lots(web, ring)
                self.assertEqual(ring, ring_ahead)
                kept = copy.deepcopy(told)
                for lot in told:
                    lot.append("q")
                self.assertEqual(lots(web, ring), kept)
                self.assertEqual(lots(same_rounds(web), ring), kept)
                told = lots(web, ring)
                ring.clear()
                self.assertEqual(told, kept)
            self.assertEqual(rounds(web), ahead)

    def test_parting_asked_again_or_of_another_web_with_the_same_rounds(self):
        for web in [Web(rows) for rows in [BOTH, caps(), grid(3, 6), TRIANGLE]]:
            ahead = rounds(web)
            for root in web.places():
                told = parting(web, root)
                kept = copy.deepcopy(told)
                for inner in told:
                    inner.append("q")
                self.assertEqual(parting(web, root), kept)
                self.assertEqual(parting(same_rounds(web), root), kept)
            self.assertEqual(rounds(web), ahead)


if __name__ == "__main__":
    unittest.main()
