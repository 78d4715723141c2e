"""Promises 2 and 4: names and webs."""

import copy
import itertools
import unittest

from fivehues.errors import NoName, NoPlace, NotFlat, OneWay, Twice
from fivehues.webs import Web, is_name
from tests.helpers import BOW, FOUR, NO_NAMES, PIECES, STAR, TRIANGLE, flat_webs, grid, rounds, twisted


class Names(unittest.TestCase):
    def test_names(self):
        for text in ["a", "z", "az", "m", "abcdefgh", "zzzzzzzz", "none", "true"]:
            with self.subTest(text=text):
                self.assertIs(is_name(text), True)

    def test_no_names(self):
        for thing in NO_NAMES:
            with self.subTest(thing=thing):
                self.assertIs(is_name(thing), False)

    def test_letters_beyond_a_to_z(self):
        for text in ["\u00e4", "\u00df", "\u03b1", "\uff41", "a\u0301"]:
            with self.subTest(text=text):
                self.assertIs(is_name(text), False)

    def test_every_sign_by_itself(self):
        for code in range(0, 300):
            with self.subTest(code=code):
                self.assertIs(is_name(chr(code)), 97 <= code <= 122)


class Asked(unittest.TestCase):
    def test_no_rows(self):
        web = Web([])
        self.assertEqual(web.places(), [])
        self.assertEqual(web.ties(), [])
        self.assertIs(web.is_tied("a", "b"), False)
        with self.assertRaises(NoPlace):
            web.round_of("a")

    def test_one_place_without_ties(self):
        web = Web([("abcdefgh", [])])
        self.assertEqual(web.places(), ["abcdefgh"])
        self.assertEqual(web.round_of("abcdefgh"), [])
        self.assertEqual(web.ties(), [])

    def test_several_pieces(self):
        web = Web(PIECES)
        self.assertEqual(web.places(), ["a", "b", "c", "d", "x", "y", "z"])
        self.assertEqual(web.ties(), [("b", "x"), ("b", "y"), ("c", "d"), ("x", "y")])
        self.assertEqual(web.round_of("x"), ["b", "y"])
        self.assertEqual(web.round_of("a"), [])

    def test_forty_places(self):
        web = Web(grid())
        self.assertEqual(len(web.places()), 40)
        self.assertEqual(len(web.ties()), 67)
        self.assertEqual(web.round_of("bb"), ["ab", "bc", "cb", "ba"])
        self.assertEqual(len(Web(grid(1, 20) + [("q" + place, []) for place, around in grid(1, 20)]).places()), 40)

    def test_places_are_sorted_as_texts(self):
        web = Web([("b", []), ("ab", []), ("z", []), ("a", []), ("aaa", [])])
        self.assertEqual(web.places(), ["a", "aaa", "ab", "b", "z"])

    def test_ties_are_rising(self):
        self.assertEqual(
            Web(BOW[::-1]).ties(), [("a", "b"), ("a", "c"), ("a", "d"), ("a", "e"), ("b", "c"), ("d", "e")]
        )
        self.assertEqual(Web(STAR).ties(), [("a", "m"), ("b", "m"), ("c", "m")])

    def test_ties_have_the_less_first_and_are_not_left_in_round_order(self):
        web = Web([("a", ["b", "d", "c"]), ("d", ["a"]), ("c", ["a"]), ("b", ["a"])])
        self.assertEqual(web.ties(), [("a", "b"), ("a", "c"), ("a", "d")])

    def test_rows_in_any_order(self):
        told = rounds(Web(FOUR))
        for rows in itertools.permutations(FOUR):
            self.assertEqual(rounds(Web(list(rows))), told)

    def test_rounds_from_any_one_on(self):
        for at in range(4):
            web = Web([(place, around[at:] + around[:at]) for place, around in BOW])
            self.assertEqual(rounds(web), BOW)

    def test_rounds_keep_their_order(self):
        web = Web([("m", ["c", "a", "d", "b"])] + [(leaf, ["m"]) for leaf in "abcd"])
        self.assertEqual(web.round_of("m"), ["a", "d", "b", "c"])

    def test_round_of_what_is_no_place(self):
        for name in ["d", "aa", "abcdefgh"]:
            with self.subTest(name=name):
                with self.assertRaises(NoPlace):
                    Web(TRIANGLE).round_of(name)

    def test_is_tied(self):
        for web in flat_webs():
            ties = web.ties()
            for one in web.places() + ["no", "abcdefgh"]:
                for other in web.places() + ["no", "abcdefgh"]:
                    tied = (min(one, other), max(one, other)) in ties
                    self.assertIs(web.is_tied(one, other), tied)

    def test_is_tied_of_two_like_ones(self):
        self.assertIs(Web(TRIANGLE).is_tied("a", "a"), False)
        self.assertIs(Web(TRIANGLE).is_tied("no", "no"), False)


class Unchanged(unittest.TestCase):
    def test_rows_are_not_changed(self):
        for rows in [PIECES, BOW, [(place, around[::-1]) for place, around in grid()[::-1]]]:
            ahead = copy.deepcopy(rows)
            Web(rows)
            self.assertEqual(rows, ahead)

    def test_refused_rows_are_not_changed(self):
        for rows in [twisted()[::-1], [("b", ["a"]), ("a", [])], [("b", []), ("b", [])], [("b", []), ("B", [])]]:
            ahead = copy.deepcopy(rows)
            with self.assertRaises(ValueError):
                Web(rows)
            self.assertEqual(rows, ahead)

    def test_rows_changed_behind_the_call(self):
        rows = copy.deepcopy(BOW)
        web = Web(rows)
        for place, around in rows:
            around.reverse()
            around.append("q")
        rows.clear()
        self.assertEqual(rounds(web), BOW)
        self.assertEqual(len(web.ties()), 6)
        self.assertIs(web.is_tied("a", "q"), False)

    def test_told_lists_are_the_askers_own(self):
        web = Web(BOW)
        web.places().clear()
        web.round_of("a").append("q")
        web.round_of("b").clear()
        web.ties().pop()
        self.assertEqual(web.places(), ["a", "b", "c", "d", "e"])
        self.assertEqual(rounds(web), BOW)
        self.assertEqual(len(web.ties()), 6)
        self.assertIs(web.is_tied("a", "q"), False)


class Refused(unittest.TestCase):
    def test_no_name_as_a_place(self):
        for thing in NO_NAMES:
            with self.subTest(thing=thing):
                with self.assertRaises(NoName):
                    Web([("a", []), (thing, [])])

    def test_no_name_in_a_round(self):
        for thing in NO_NAMES:
            for around in [[thing], ["b", thing], [thing, "b"]]:
                with self.subTest(thing=thing, around=around):
                    with self.assertRaises(NoName):
                        Web([("a", around), ("b", ["a"])])

    def test_two_rows_have_one_place(self):
        for rows in [[("a", []), ("a", [])], TRIANGLE + [TRIANGLE[1]], TRIANGLE + [("c", [])]]:
            with self.subTest(rows=rows):
                with self.assertRaises(Twice):
                    Web(rows)

    def test_a_name_stands_twice_in_a_round(self):
        for rows in [
            [("a", ["b", "b"]), ("b", ["a"])],
            [("a", ["b"]), ("b", ["a", "c", "a"]), ("c", ["b"])],
            [("a", ["q", "q"])],
        ]:
            with self.subTest(rows=rows):
                with self.assertRaises(Twice):
                    Web(rows)

    def assert_one_way(self, rows, one, other):
        with self.assertRaises(OneWay) as caught:
            Web(rows)
        self.assertEqual((caught.exception.one, caught.exception.other), (one, other))

    def test_one_way_to_what_is_no_place(self):
        self.assert_one_way([("a", ["b"])], "a", "b")

    def test_one_way_to_a_place(self):
        self.assert_one_way([("a", ["b"]), ("b", [])], "a", "b")
        self.assert_one_way([("a", []), ("b", ["a"])], "b", "a")

    def test_one_way_to_itself(self):
        self.assert_one_way([("a", ["a"])], "a", "a")
        self.assert_one_way([("a", ["b", "a"]), ("b", ["a"])], "a", "a")

    def test_first_one_way_by_rows_and_then_by_the_round(self):
        self.assert_one_way([("c", ["q"]), ("a", ["p"])], "c", "q")
        self.assert_one_way([("c", []), ("b", ["q", "c", "a"]), ("a", ["p"])], "b", "q")
        self.assert_one_way([("b", ["d", "q", "c", "a"]), ("d", ["b"])], "b", "q")
        self.assert_one_way([("b", ["d", "b", "a"]), ("d", ["b"])], "b", "b")
        self.assert_one_way([("b", ["d", "q", "b"]), ("d", ["b"])], "b", "q")

    def test_not_flat(self):
        with self.assertRaises(NotFlat):
            Web(twisted())

    def test_each_is_looked_for_in_all_rows_ahead_of_the_next(self):
        no_name = [("A", [])]
        twice = [("p", []), ("p", [])]
        one_way = [("q", ["r"])]
        not_flat = twisted()
        faults = [(NoName, no_name), (Twice, twice), (OneWay, one_way), (NotFlat, not_flat)]
        for (refusal, rows), (later, other_rows) in itertools.combinations(faults, 2):
            for both in [rows + other_rows, other_rows + rows]:
                with self.subTest(refusal=refusal, later=later):
                    with self.assertRaises(refusal):
                        Web(both)

    def test_no_name_in_a_last_round_goes_ahead_of_all(self):
        with self.assertRaises(NoName):
            Web(twisted() + [("p", ["a", "a"]), ("p", [None])])

    def test_twice_in_a_last_round_goes_ahead_of_one_way(self):
        with self.assertRaises(Twice):
            Web([("a", ["b"]), ("c", ["d", "d"])])


if __name__ == "__main__":
    unittest.main()
