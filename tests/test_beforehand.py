"""Promise 24: hues told beforehand."""

import copy
import random
import unittest

from fivehues.beforehand import completed
from fivehues.choices import is_read
from fivehues.errors import NoPlace, TooMany
from fivehues.images import mirrored
from fivehues.webs import Web
from tests.helpers import FOUR, PIECES, TRIANGLE, are_right, grid, refusal, ring_rows, rounds, same_rounds
from tests.test_choices import is_there, kinds_are_told, reads, small_webs, spoil


def lists_of(web, told, many):
    """The lists that the document tells of hues told beforehand."""
    return {place: [told[place]] if place in told else [hue for hue in range(many)] for place in web.places()}


def told_by_chance(web, chance):
    """Hues from 0 to 10 of none, some or all places."""
    share = chance.choice([0, 0.2, 0.5, 0.8, 1])
    most = chance.choice([2, 4, 10])
    return {place: chance.randrange(most + 1) for place in web.places()[::-1] if chance.random() < share}


class Completed(unittest.TestCase):
    def assert_completed(self, web, told, many):
        answer = completed(web, told, many)
        self.assertIsInstance(answer, tuple)
        kind, what = answer
        lists = lists_of(web, told, many)
        self.assertEqual(kind, "hues" if is_there(web, lists) else "choice")
        if kind == "hues":
            self.assertTrue(are_right(web, what))
            for place in what:
                if place in told:
                    self.assertEqual(what[place], told[place])
                else:
                    self.assertLess(what[place], many)
        else:
            self.assertTrue(kinds_are_told(what))
            self.assertTrue(reads(web, lists, what))
            self.assertIs(is_read(web, lists, what), True)
        return kind

    def test_no_places_and_one(self):
        self.assertEqual(completed(Web([]), {}, 1), ("hues", {}))
        self.assertEqual(completed(Web([("a", [])]), {}, 1), ("hues", {"a": 0}))
        for hue in range(11):
            self.assertEqual(completed(Web([("a", [])]), {"a": hue}, 1), ("hues", {"a": hue}))

    def test_small_ones_whole(self):
        web = Web(TRIANGLE)
        self.assertEqual(completed(web, {"a": 1, "b": 0}, 3), ("hues", {"a": 1, "b": 0, "c": 2}))
        # A hue of many and more may be told, but no other place gets it.
        self.assertEqual(completed(web, {"a": 10, "b": 0}, 2), ("hues", {"a": 10, "b": 0, "c": 1}))
        self.assertEqual(completed(web, {"a": 10, "b": 1, "c": 9}, 1), ("hues", {"a": 10, "b": 1, "c": 9}))
        kind, choice = completed(web, {"a": 0, "b": 1}, 2)
        self.assertEqual(kind, "choice")
        self.assertEqual(completed(web, {"a": 3, "b": 3, "c": 1}, 10)[0], "choice")
        self.assertEqual(completed(Web(FOUR), {}, 3)[0], "choice")
        self.assertEqual(completed(Web(FOUR), {"a": 3}, 3)[0], "hues")
        self.assertEqual(completed(Web(FOUR), {}, 4)[0], "hues")

    def test_none_told(self):
        for web in small_webs():
            for many in range(1, 11):
                kind = self.assert_completed(web, {}, many)
                if many >= 4:
                    self.assertEqual(kind, "hues")

    def test_by_chance(self):
        chance = random.Random(24)
        met = []
        for web in small_webs():
            for k in range(40):
                met.append(self.assert_completed(web, told_by_chance(web, chance), chance.randrange(1, 11)))
        self.assertGreater(min(met.count("hues"), met.count("choice")), 200)

    def test_mirrored(self):
        chance = random.Random(34)
        for web in small_webs():
            for k in range(5):
                told, many = told_by_chance(web, chance), chance.randrange(1, 6)
                self.assertEqual(completed(mirrored(web), told, many)[0], completed(web, told, many)[0])


class Refused(unittest.TestCase):
    def test_a_key_is_no_place(self):
        for rows in [[], TRIANGLE, PIECES, ring_rows(12), ring_rows(13), grid()]:
            web = Web(rows)
            for told in [{"q": 0}, {**{place: 0 for place in web.places()}, "q": 0}, {"q": 0, "r": 1}]:
                self.assertIs(refusal(completed, web, told, 5), NoPlace)

    def test_too_many(self):
        self.assertIsNone(refusal(completed, Web(ring_rows(12)), {}, 3))
        for many in [13, 14, 40]:
            web = Web(ring_rows(many))
            self.assertIs(refusal(completed, web, {}, 3), TooMany)
            self.assertIs(refusal(completed, web, {"aa": 0}, 3), TooMany)
            self.assertIs(refusal(completed, web, {place: at % 2 for at, place in enumerate(web.places())}, 3), TooMany)


class Unchanged(unittest.TestCase):
    def test_asked_again_or_of_another_web_with_the_same_rounds(self):
        chance = random.Random(44)
        for web in small_webs():
            for k in range(5):
                ahead = rounds(web)
                told, many = told_by_chance(web, chance), chance.randrange(1, 6)
                told_ahead = copy.deepcopy(told)
                answer = completed(web, told, many)
                self.assertEqual(told, told_ahead)
                kept = copy.deepcopy(answer)
                spoil(answer[1])
                self.assertEqual(told, told_ahead)
                self.assertEqual(completed(web, told, many), kept)
                self.assertEqual(completed(same_rounds(web), dict(sorted(told.items())), many), kept)
                answer = completed(web, told, many)
                told.clear()
                self.assertEqual(answer, kept)
                self.assertEqual(rounds(web), ahead)


if __name__ == "__main__":
    unittest.main()
