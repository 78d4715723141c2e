"""Promise 13: the paper that goes with the five hues."""

import copy
import unittest

from fivehues.chains import chain, exchanged
from fivehues.fives import five_hues
from fivehues.papers import five_paper
from fivehues.readers import read_paper
from fivehues.sixhues import order
from fivehues.webs import Web
from fivehues.webtexts import read_web
from tests.helpers import SECOND, SIXTH, TRIANGLE, chance_webs, five_webs, rounds, same_rounds, spoil


class FivePaper(unittest.TestCase):
    def assert_paper(self, web):
        paper = five_paper(web)
        self.assertIsInstance(paper, list)
        self.assertEqual([place for place, hue, swaps in paper], order(web)[::-1])
        hues = {}
        for step in paper:
            self.assertIsInstance(step, tuple)
            place, hue, swaps = step
            self.assertIsInstance(swaps, list)
            self.assertLessEqual(len(swaps), 1)
            for swap in swaps:
                self.assertIsInstance(swap, tuple)
                start, other, places = swap
                self.assertEqual(places, chain(web, hues, start, other))
                hues = exchanged(web, hues, start, other)
            hues[place] = hue
        self.assertEqual(hues, five_hues(web))
        self.assertEqual(read_paper(web, paper, 5), hues)
        self.assertEqual(read_paper(web, paper), hues)

    def test_no_places(self):
        self.assertEqual(five_paper(Web([])), [])

    def test_no_swaps(self):
        self.assertEqual(five_paper(Web([("a", [])])), [("a", 0, [])])
        self.assertEqual(five_paper(Web(TRIANGLE)), [("c", 0, []), ("b", 1, []), ("a", 2, [])])

    def test_a_swap_is_needed(self):
        for text, third_is_chained in [(SIXTH, False), (SECOND, True)]:
            web = read_web(text)
            paper = five_paper(web)
            self.assertEqual([len(swaps) for place, hue, swaps in paper], [0] * (len(paper) - 1) + [1])
            # Without its last step the paper leads to the hues that the last place meets.
            hues = {place: hue for place, hue, swaps in paper[:-1]}
            around = web.round_of(paper[-1][0])
            self.assertEqual(sorted([hues[other] for other in around]), [0, 1, 2, 3, 4])
            self.assertEqual(around[2] in chain(web, hues, around[0], hues[around[2]]), third_is_chained)
            self.assert_paper(web)

    def test_a_swap_is_needed_where_one_of_the_round_is_not_back(self):
        for text in [SIXTH, SECOND]:
            whole = dict(rounds(read_web(text)))
            for at in range(5):
                rows = dict(whole)
                rows["aa"] = whole["aa"][:at] + ["a"] + whole["aa"][at:]
                rows["a"] = ["aa"]
                web = Web(list(rows.items()))
                self.assertEqual([step[0] for step in five_paper(web) if step[2]], ["aa"])
                self.assert_paper(web)

    def test_steps_swaps_and_hues(self):
        for web in five_webs() + chance_webs(100) + chance_webs(10, 5, 7):
            self.assert_paper(web)


class Unchanged(unittest.TestCase):
    def test_asked_again_or_of_another_web_with_the_same_rounds(self):
        for web in five_webs():
            ahead = rounds(web)
            told = five_paper(web)
            kept = copy.deepcopy(told)
            spoil(told)
            self.assertEqual(five_paper(web), kept)
            self.assertEqual(five_paper(same_rounds(web)), kept)
            self.assertEqual(read_paper(web, five_paper(web)), five_hues(web))
            self.assertEqual(rounds(web), ahead)


if __name__ == "__main__":
    unittest.main()
