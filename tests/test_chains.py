"""Promise 10: chains of two hues, and the two exchanged in them."""

import unittest

from fivehues.chains import chain, exchanged
from fivehues.errors import HueError, NoHue, NoPlace
from fivehues.hues import fault
from fivehues.images import mirrored
from fivehues.sixhues import six_hues
from fivehues.webs import Web
from tests.helpers import BOW, PIECES, STAR, TRIANGLE, caps, chance_webs, flat_webs, grid, rounds, same_rounds

BOW_HUES = {"a": 0, "b": 1, "c": 2, "d": 1, "e": 3}


def samples():
    """Webs with hues of all places, and of some places alone."""
    found = []
    for web in flat_webs() + chance_webs(10):
        hues = six_hues(web)
        found += [(web, hues), (web, {place: hues[place] for place in list(hues)[::2]})]
        found += [(web, {place: hues[place] for place in hues if hues[place] != 1})]
    return found


def reached(web, hues, start, other):
    """The chain once more, grown until it grows no more."""
    two = [hues[start], other]
    found = [start]
    while True:
        more = [q for q in hues if hues[q] in two and q not in found and any(web.is_tied(p, q) for p in found)]
        if not more:
            return sorted(found)
        found += more


class Chains(unittest.TestCase):
    def assert_chain(self, rows, hues, start, other, told):
        self.assertEqual(chain(Web(rows), hues, start, other), told)

    def test_two_hues_alone(self):
        self.assert_chain(BOW, BOW_HUES, "a", 1, ["a", "b", "d"])
        self.assert_chain(BOW, BOW_HUES, "b", 0, ["a", "b", "d"])
        self.assert_chain(BOW, BOW_HUES, "d", 0, ["a", "b", "d"])
        self.assert_chain(BOW, BOW_HUES, "a", 2, ["a", "c"])
        self.assert_chain(BOW, BOW_HUES, "a", 3, ["a", "e"])

    def test_like_hues_that_are_not_come_to(self):
        self.assert_chain(BOW, BOW_HUES, "b", 2, ["b", "c"])
        self.assert_chain(BOW, BOW_HUES, "d", 2, ["d"])
        self.assert_chain(BOW, BOW_HUES, "d", 3, ["d", "e"])
        self.assert_chain(PIECES, {"a": 0, "b": 0, "c": 0, "d": 1, "x": 1, "y": 2, "z": 0}, "b", 1, ["b", "x"])

    def test_a_hue_that_no_place_has(self):
        for place in BOW_HUES:
            for other in [4, 5, 10 ** 9]:
                self.assert_chain(BOW, BOW_HUES, place, other, [place])

    def test_some_places_alone(self):
        self.assert_chain(BOW, {"b": 1, "d": 0}, "b", 0, ["b"])
        self.assert_chain(BOW, {"b": 1, "a": 0}, "b", 0, ["a", "b"])
        self.assert_chain(BOW, {"e": 1}, "e", 0, ["e"])
        line = [("a", ["b"]), ("b", ["a", "c"]), ("c", ["b", "d"]), ("d", ["c"])]
        self.assert_chain(line, {"a": 0, "b": 1, "c": 0, "d": 1}, "d", 0, ["a", "b", "c", "d"])
        self.assert_chain(line, {"a": 0, "c": 0, "d": 1}, "d", 0, ["c", "d"])

    def test_a_chain_that_goes_round(self):
        web = Web(grid(2, 2))
        hues = {"aa": 3, "ab": 0, "ba": 0, "bb": 3}
        self.assertEqual(chain(web, hues, "bb", 0), ["aa", "ab", "ba", "bb"])
        web = Web(caps(2, 6))
        hues = {"a" + letter: k % 2 for k, letter in enumerate("abcdef")}
        self.assertEqual(chain(web, hues, "ad", 0), ["aa", "ab", "ac", "ad", "ae", "af"])
        self.assertEqual(exchanged(web, hues, "ad", 0), {"a" + letter: 1 - k % 2 for k, letter in enumerate("abcdef")})

    def test_a_chain_of_forty_places(self):
        web = Web(grid())
        hues = {place: (ord(place[0]) + ord(place[1])) % 2 for place in web.places()}
        for start in ["aa", "ce", "eh"]:
            self.assertEqual(chain(web, hues, start, 1 - hues[start]), web.places())

    def test_as_far_as_ties_lead(self):
        for web, hues in samples():
            for start in hues:
                for other in range(6):
                    if other != hues[start]:
                        told = chain(web, hues, start, other)
                        self.assertEqual(told, reached(web, hues, start, other))
                        self.assertEqual(chain(mirrored(web), hues, start, other), told)


class Exchanged(unittest.TestCase):
    def test_the_two_hues_are_exchanged_in_the_chain(self):
        web = Web(BOW)
        self.assertEqual(exchanged(web, BOW_HUES, "a", 1), {"a": 1, "b": 0, "c": 2, "d": 0, "e": 3})
        self.assertEqual(exchanged(web, BOW_HUES, "b", 0), {"a": 1, "b": 0, "c": 2, "d": 0, "e": 3})
        self.assertEqual(exchanged(web, BOW_HUES, "b", 2), {"a": 0, "b": 2, "c": 1, "d": 1, "e": 3})

    def test_a_hue_that_no_place_has(self):
        self.assertEqual(exchanged(Web(BOW), BOW_HUES, "d", 2), {"a": 0, "b": 1, "c": 2, "d": 2, "e": 3})
        self.assertEqual(exchanged(Web(BOW), BOW_HUES, "a", 10 ** 9), {"a": 10 ** 9, "b": 1, "c": 2, "d": 1, "e": 3})
        self.assertEqual(exchanged(Web([("a", [])]), {"a": 0}, "a", 7), {"a": 7})

    def test_some_places_alone(self):
        self.assertEqual(exchanged(Web(BOW), {"b": 1, "d": 0}, "b", 0), {"b": 0, "d": 0})
        self.assertEqual(exchanged(Web(STAR), {"m": 4, "a": 2}, "m", 2), {"m": 2, "a": 4})

    def test_no_tie_joins_like_ones_and_back_all_is_as_before(self):
        for web, hues in samples():
            for start in hues:
                for other in range(6):
                    if other != hues[start]:
                        told = exchanged(web, hues, start, other)
                        self.assertEqual(sorted(told), sorted(hues))
                        self.assertEqual(exchanged(web, told, start, hues[start]), hues)
                        like = [(p, q) for p, q in web.ties() if p in told and q in told and told[p] == told[q]]
                        self.assertEqual(like, [])
                        if len(hues) == len(web.places()):
                            self.assertIs(fault(web, told), None)


class Refused(unittest.TestCase):
    def assert_refused(self, refusal, rows, hues, start, other):
        for ask in [chain, exchanged]:
            with self.subTest(ask=ask.__name__, start=start, other=other):
                ahead = dict(hues)
                with self.assertRaises(refusal) as caught:
                    ask(Web(rows), hues, start, other)
                self.assertIs(type(caught.exception), refusal)
                self.assertIsInstance(caught.exception, HueError)
                self.assertIsInstance(caught.exception, ValueError)
                self.assertEqual(hues, ahead)

    def test_no_place(self):
        for other in [0, 1, 5, -1]:
            self.assert_refused(NoPlace, BOW, BOW_HUES, "q", other)
            self.assert_refused(NoPlace, BOW, {"a": 0, "b": 1}, "c", other)
            self.assert_refused(NoPlace, BOW, {}, "a", other)
            self.assert_refused(NoPlace, [], {}, "a", other)

    def test_a_hue_of_a_name_of_no_place(self):
        self.assert_refused(NoPlace, TRIANGLE, {"a": 0, "q": 1}, "q", -1)

    def test_no_hue(self):
        for place in BOW_HUES:
            for other in [BOW_HUES[place], -1, -10 ** 9]:
                self.assert_refused(NoHue, BOW, BOW_HUES, place, other)
        self.assert_refused(NoHue, [("a", [])], {"a": 0}, "a", 0)
        self.assert_refused(NoHue, [("a", [])], {"a": 10 ** 9}, "a", 10 ** 9)


class Unchanged(unittest.TestCase):
    def test_the_hues_and_the_web_stay(self):
        web = Web(BOW)
        hues = dict(BOW_HUES)
        chain(web, hues, "a", 1)
        exchanged(web, hues, "a", 1)
        self.assertEqual(list(hues.items()), list(BOW_HUES.items()))
        self.assertEqual(rounds(web), BOW)

    def test_what_is_told_is_the_askers_own(self):
        web = Web(BOW)
        hues = dict(BOW_HUES)
        chain(web, hues, "a", 1).clear()
        exchanged(web, hues, "a", 1).clear()
        told = exchanged(web, hues, "d", 2)
        told["e"] = 9
        self.assertEqual(hues, BOW_HUES)
        self.assertEqual(chain(web, hues, "a", 1), ["a", "b", "d"])
        hues["d"] = 7
        self.assertEqual(told["d"], 2)

    def test_asked_again_or_of_another_web_with_the_same_rounds(self):
        for web, hues in samples()[:30]:
            for start in list(hues)[:3]:
                told = exchanged(web, hues, start, hues[start] + 1)
                self.assertEqual(exchanged(web, hues, start, hues[start] + 1), told)
                self.assertEqual(exchanged(same_rounds(web), hues, start, hues[start] + 1), told)


if __name__ == "__main__":
    unittest.main()
