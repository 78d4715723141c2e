"""Promise 9: the order of a web, and its six hues."""

import unittest

from fivehues.hues import fault
from fivehues.images import mirrored
from fivehues.sixhues import order, six_hues
from fivehues.webs import Web
from fivehues.webtexts import read_web
from tests.helpers import BOW, FOUR, PIECES, SIXTH, STAR, TRIANGLE
from tests.helpers import caps, chance_webs, flat_webs, grid, rounds, same_rounds


def samples():
    return flat_webs() + chance_webs(30) + chance_webs(5, 5, 7) + [read_web(SIXTH)]


class Order(unittest.TestCase):
    def test_told_orders(self):
        for rows, told in [
            ([], []),
            ([("b", []), ("a", []), ("ab", [])], ["a", "ab", "b"]),
            (TRIANGLE, ["a", "b", "c"]),
            (FOUR, ["a", "b", "c", "d"]),
            (STAR, ["a", "b", "c", "m"]),
            (BOW, ["b", "c", "a", "d", "e"]),
            (PIECES, ["a", "z", "c", "d", "b", "x", "y"]),
        ]:
            with self.subTest(rows=rows):
                self.assertEqual(order(Web(rows)), told)

    def test_ties_to_those_taken_off_do_not_count(self):
        way = [("d", ["c"]), ("c", ["d", "b"]), ("b", ["c", "a"]), ("a", ["b"])]
        self.assertEqual(order(Web(way)), ["a", "b", "c", "d"])
        way = [("b", ["c"]), ("c", ["b", "a"]), ("a", ["c", "d"]), ("d", ["a"])]
        self.assertEqual(order(Web(way)), ["b", "c", "a", "d"])

    def test_each_has_five_ties(self):
        web = Web(caps())
        self.assertEqual({len(web.round_of(place)) for place in web.places()}, {5})
        told = ["aa", "ab", "ac", "ad", "ae", "ba", "bb", "bc", "bd", "be", "north", "south"]
        self.assertEqual(web.places(), told)
        self.assertEqual(order(web), ["aa", "ab", "ba", "bb", "ac", "north", "ad", "ae", "bc", "bd", "be", "south"])

    def test_each_time_the_one_tied_to_the_fewest_of_the_least(self):
        for web in samples():
            left = web.places()
            for place in order(web):
                many = {one: len([other for other in left if web.is_tied(one, other)]) for one in left}
                fewest = [one for one in left if many[one] == min(many.values())]
                self.assertEqual(place, fewest[0])
                self.assertLessEqual(many[place], 5)
                left.remove(place)
            self.assertEqual(left, [])

    def test_rounds_have_no_bearing(self):
        for web in samples():
            self.assertEqual(order(mirrored(web)), order(web))


class SixHues(unittest.TestCase):
    def test_told_hues(self):
        for rows, told in [
            ([], {}),
            ([("a", []), ("b", [])], {"a": 0, "b": 0}),
            (TRIANGLE, {"c": 0, "b": 1, "a": 2}),
            (FOUR, {"d": 0, "c": 1, "b": 2, "a": 3}),
            (STAR, {"m": 0, "a": 1, "b": 1, "c": 1}),
            (BOW, {"e": 0, "d": 1, "a": 2, "c": 0, "b": 1}),
            (PIECES, {"y": 0, "x": 1, "b": 2, "d": 0, "c": 1, "z": 0, "a": 0}),
        ]:
            with self.subTest(rows=rows):
                self.assertEqual(six_hues(Web(rows)), told)

    def test_right_and_below_six(self):
        for web in samples():
            for image in [web, mirrored(web)]:
                told = six_hues(image)
                self.assertIs(fault(image, told), None)
                for hue in told.values():
                    self.assertIs(type(hue), int)
                    self.assertIn(hue, range(6))

    def test_the_least_hue_in_the_opposite_order(self):
        for web in samples():
            told = six_hues(web)
            self.assertEqual(sorted(told), web.places())
            back = []
            for place in reversed(order(web)):
                taken = [told[other] for other in back if web.is_tied(place, other)]
                self.assertEqual(told[place], min(set(range(7)) - set(taken)))
                back.append(place)

    def test_a_sixth_hue(self):
        web = read_web(SIXTH)
        self.assertEqual(order(web)[0], "aa")
        self.assertEqual(six_hues(web)["aa"], 5)
        self.assertIs(fault(web, six_hues(web)), None)


class Unchanged(unittest.TestCase):
    def test_what_is_told_is_the_askers_own(self):
        for web in [Web(BOW), Web(grid())]:
            ahead = rounds(web)
            taken, hues = order(web), six_hues(web)
            order(web).clear()
            six_hues(web).clear()
            six_hues(web)["a"] = 9
            self.assertEqual(order(web), taken)
            self.assertEqual(six_hues(web), hues)
            self.assertEqual(rounds(web), ahead)

    def test_another_web_with_the_same_rounds(self):
        for web in samples():
            other = same_rounds(web)
            self.assertEqual(order(other), order(web))
            self.assertEqual(six_hues(other), six_hues(web))


if __name__ == "__main__":
    unittest.main()
