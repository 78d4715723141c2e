"""Promise 11: five hues."""

import unittest

from fivehues.fives import five_hues
from fivehues.hues import fault
from fivehues.webs import Web
from fivehues.webtexts import read_web
from tests.helpers import PIECES, SECOND, SIXTH, TRIANGLE, caps, chance_webs, five_webs, rounds, same_rounds


class FiveHues(unittest.TestCase):
    def assert_five(self, web):
        told = five_hues(web)
        self.assertIsInstance(told, dict)
        self.assertEqual(sorted(told), web.places())
        for hue in told.values():
            self.assertIs(type(hue), int)
            self.assertIn(hue, range(5))
        self.assertEqual([tie for tie in web.ties() if told[tie[0]] == told[tie[1]]], [])
        self.assertIs(fault(web, told), None)

    def test_no_places(self):
        self.assertEqual(five_hues(Web([])), {})

    def test_one_place(self):
        self.assert_five(Web([("a", [])]))

    def test_several_pieces(self):
        self.assert_five(Web(PIECES))
        other = [("q" + place, ["q" + beside for beside in around]) for place, around in caps()]
        self.assert_five(Web(caps() + other + TRIANGLE))

    def test_right_and_below_five(self):
        for web in five_webs():
            self.assert_five(web)

    def test_by_chance(self):
        for web in chance_webs(100) + chance_webs(20, 5, 7):
            self.assert_five(web)

    def test_where_the_six_hues_are_six(self):
        self.assert_five(read_web(SIXTH))
        self.assert_five(read_web(SECOND))


class Unchanged(unittest.TestCase):
    def test_asked_again_or_of_another_web_with_the_same_rounds(self):
        for web in five_webs():
            ahead = rounds(web)
            told = five_hues(web)
            five_hues(web).clear()
            changed = five_hues(web)
            for place in changed:
                changed[place] = 9
            self.assertEqual(five_hues(web), told)
            self.assertEqual(five_hues(same_rounds(web)), told)
            self.assertEqual(rounds(web), ahead)


if __name__ == "__main__":
    unittest.main()
