"""Promise 8: hues and their faults."""

import itertools
import unittest

from fivehues.hues import fault, free_hue
from fivehues.webs import Web
from tests.helpers import BOW, FOUR, PIECES, STAR, TRIANGLE, chance_webs, rounds, same_rounds

# Faults of three sorts for the two triangles that share a place: each by itself, and what is told of it.
LACKING = ("lacking", "c")
STRANGE = ("strange", "aa")
LIKE = ("like", "d", "e")


def bow_hues(*faults):
    """Hues of the two triangles with just these faults."""
    hues = {"e": 2, "d": 2 if LIKE in faults else 1, "b": 1, "a": 0}
    if STRANGE in faults:
        hues["aa"] = 0
    if LACKING not in faults:
        hues["c"] = 2
    return hues


class Right(unittest.TestCase):
    def test_right_ones(self):
        for rows, hues in [
            ([], {}),
            ([("a", [])], {"a": 0}),
            ([("a", [])], {"a": 10 ** 9}),
            (TRIANGLE, {"a": 0, "b": 1, "c": 2}),
            (TRIANGLE, {"c": 10 ** 9, "a": 10 ** 9 - 1, "b": 0}),
            (FOUR, {"a": 3, "b": 2, "c": 1, "d": 0}),
            (BOW, bow_hues()),
            (STAR, {"a": 7, "b": 7, "c": 7, "m": 0}),
            (PIECES, {"a": 0, "z": 0, "c": 1, "d": 0, "b": 0, "x": 1, "y": 2}),
        ]:
            with self.subTest(hues=hues):
                self.assertIs(fault(Web(rows), hues), None)

    def test_none_just_where_they_are_right(self):
        web = Web([("a", ["b"]), ("b", ["a", "c"]), ("c", ["b"])])
        for given in itertools.product([None, 0, 1, 2], repeat=4):
            hues = {name: hue for name, hue in zip("abcq", given) if hue is not None}
            right = sorted(hues) == ["a", "b", "c"] and hues["a"] != hues["b"] != hues["c"]
            self.assertEqual(fault(web, hues) is None, right, hues)


class Faults(unittest.TestCase):
    def test_lacking(self):
        self.assertEqual(fault(Web(TRIANGLE), {}), ("lacking", "a"))
        self.assertEqual(fault(Web(TRIANGLE), {"a": 0}), ("lacking", "b"))
        self.assertEqual(fault(Web(TRIANGLE), {"c": 0, "a": 1}), ("lacking", "b"))
        self.assertEqual(fault(Web(PIECES[::-1]), {"a": 0, "c": 1, "d": 2}), ("lacking", "b"))

    def test_strange(self):
        self.assertEqual(fault(Web([]), {"q": 0}), ("strange", "q"))
        self.assertEqual(fault(Web([]), {"q": 0, "b": 3, "ba": 1}), ("strange", "b"))
        self.assertEqual(fault(Web(TRIANGLE), {"z": 0, "c": 0, "b": 1, "a": 2, "d": 3}), ("strange", "d"))

    def test_like(self):
        self.assertEqual(fault(Web(TRIANGLE), {"a": 0, "b": 0, "c": 0}), ("like", "a", "b"))
        self.assertEqual(fault(Web(TRIANGLE), {"a": 0, "b": 1, "c": 0}), ("like", "a", "c"))
        self.assertEqual(fault(Web(TRIANGLE), {"a": 0, "b": 1, "c": 1}), ("like", "b", "c"))
        self.assertEqual(fault(Web(TRIANGLE), {"a": 10 ** 9, "b": 1, "c": 10 ** 9}), ("like", "a", "c"))

    def test_the_least_tie_not_the_first_of_a_round(self):
        web = Web([("a", ["b", "d", "c"]), ("b", ["a"]), ("c", ["a"]), ("d", ["a"])])
        self.assertEqual(fault(web, {"a": 1, "b": 0, "c": 1, "d": 1}), ("like", "a", "c"))

    def test_one_is_less_than_other(self):
        self.assertEqual(fault(Web(STAR), {"m": 0, "a": 1, "b": 0, "c": 0}), ("like", "b", "m"))

    def test_several_at_once_in_every_order(self):
        faults = [LACKING, STRANGE, LIKE]
        for many in range(4):
            for some in itertools.combinations(faults, many):
                hues = bow_hues(*some)
                for keys in itertools.permutations(hues):
                    told = fault(Web(BOW), {key: hues[key] for key in keys})
                    self.assertEqual(told, some[0] if some else None)


class Unchanged(unittest.TestCase):
    def test_the_dict_and_the_web_stay(self):
        web = Web(BOW)
        for some in [[], [LACKING], [STRANGE], [LIKE]]:
            hues = bow_hues(*some)
            fault(web, hues)
            self.assertEqual(list(hues.items()), list(bow_hues(*some).items()))
        self.assertEqual(rounds(web), BOW)

    def test_asked_again(self):
        for web in chance_webs(5):
            hues = {place: len(place) for place in web.places()}
            self.assertEqual(fault(web, hues), ("like",) + web.ties()[0])
            self.assertEqual(fault(same_rounds(web), dict(hues)), ("like",) + web.ties()[0])


class Free(unittest.TestCase):
    def test_the_least_hue_that_no_one_tied_to_the_place_has(self):
        for hues, many, told in [
            ({}, 4, 0),
            ({"b": 0, "c": 2}, 4, 1),
            ({"b": 1, "c": 2, "d": 3, "e": 0}, 5, 4),
            ({"b": 1, "c": 2, "d": 3, "e": 0}, 4, None),
            ({"b": 0, "c": 0, "d": 0, "e": 0}, 1, None),
            ({"a": 0, "b": 7}, 4, 0),
        ]:
            with self.subTest(hues=hues, many=many):
                self.assertEqual(free_hue(Web(BOW), hues, "a", many), told)


if __name__ == "__main__":
    unittest.main()
