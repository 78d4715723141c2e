"""Promise 14: four hues where exchanges find them."""

import copy
import random
import unittest

from fivehues.chains import chain
from fivehues.fourhues import four_paper
from fivehues.hues import fault
from fivehues.images import mirrored
from fivehues.readers import read_paper
from fivehues.sixhues import order
from fivehues.webs import Web
from fivehues.webtexts import read_web
from tests.helpers import EARLY, FOUR, LATE_NEVER, NEVER, ONE_TRY, PIECES, THREE_HELD, TRIANGLE, TWO_TRIES
from tests.helpers import chance_webs, five_webs, flat_webs, mixed, rounds, same_rounds, spoil

MOST = 10 ** 6


class OutOfSteps(Exception):
    pass


class ByHand:
    """Promise 14 once more, by exchanging and undoing in one dict."""

    def __init__(self, web, most):
        self.web, self.most = web, most
        self.hues, self.steps = {}, 0

    def free(self, place):
        around = [self.hues.get(other) for other in self.web.round_of(place)]
        return [hue for hue in range(4) if hue not in around]

    def tries(self, place):
        starts = [start for start in self.web.round_of(place) if start in self.hues]
        return sorted([(start, hue) for start in starts for hue in range(4) if hue != self.hues[start]])

    def turn(self, swap):
        start, other, places = swap
        both = self.hues[start] + other
        for place in places:
            self.hues[place] = both - self.hues[place]

    def do(self, start, other):
        if self.steps == self.most:
            raise OutOfSteps
        self.steps += 1
        swap = (start, other, chain(self.web, self.hues, start, other))
        was = self.hues[start]
        self.turn(swap)
        return swap, (start, was, swap[2])

    def swaps(self, place):
        if self.free(place):
            return []
        for start, other in self.tries(place):
            swap, back = self.do(start, other)
            if self.free(place):
                return [swap]
            self.turn(back)
        for start, other in self.tries(place):
            first, first_back = self.do(start, other)
            for begin, hue in self.tries(place):
                second, second_back = self.do(begin, hue)
                if self.free(place):
                    return [first, second]
                self.turn(second_back)
            self.turn(first_back)
        return None

    def told(self):
        paper = []
        for place in order(self.web)[::-1]:
            try:
                swaps = self.swaps(place)
            except OutOfSteps:
                return (None, self.most)
            if swaps is None:
                return (None, self.steps)
            self.hues[place] = self.free(place)[0]
            paper.append((place, self.hues[place], swaps))
        return (paper, self.steps)


def held(paper):
    """How many swaps the held places needed, in their order."""
    return [len(swaps) for place, hue, swaps in paper if swaps]


class Found(unittest.TestCase):
    def assert_found(self, web, most, many_swaps, steps):
        told = four_paper(web, most)
        self.assertIsInstance(told, tuple)
        paper, done = told
        self.assertEqual(done, steps)
        self.assertEqual(held(paper), many_swaps)
        self.assertEqual([place for place, hue, swaps in paper], order(web)[::-1])
        hues = read_paper(web, paper, 4)
        self.assertIs(fault(web, hues), None)
        self.assertLess(max(hues.values(), default=0), 4)

    def test_no_step_is_needed(self):
        self.assertEqual(four_paper(Web([]), 0), ([], 0))
        self.assertEqual(four_paper(Web([("a", [])]), 0), ([("a", 0, [])], 0))
        self.assertEqual(four_paper(Web(TRIANGLE), 0), ([("c", 0, []), ("b", 1, []), ("a", 2, [])], 0))
        told = [("d", 0, []), ("c", 1, []), ("b", 2, []), ("a", 3, [])]
        self.assertEqual(four_paper(Web(FOUR), 0), (told, 0))
        self.assertEqual(four_paper(Web(FOUR), MOST), (told, 0))
        self.assertEqual([step[:2] for step in four_paper(Web(PIECES), 0)[0]][:3], [("y", 0), ("x", 1), ("b", 2)])

    def test_held_places(self):
        for text, many_swaps, steps in [
            (EARLY, [1], 1),
            (ONE_TRY, [1], 12),
            (TWO_TRIES, [2], 35),
            (THREE_HELD, [1, 1, 2], 66),
        ]:
            for most in [steps, steps + 1, MOST]:
                with self.subTest(text=text, most=most):
                    self.assert_found(read_web(text), most, many_swaps, steps)

    def test_the_tries_that_stayed(self):
        for text, tries in [
            (EARLY, [("aa", [("ab", 0)])]),
            (ONE_TRY, [("aa", [("ak", 3)])]),
            (TWO_TRIES, [("aa", [("af", 1), ("af", 3)])]),
            (THREE_HELD, [("aa", [("ai", 1)]), ("ac", [("aa", 2)]), ("ab", [("ac", 2), ("al", 0)])]),
        ]:
            paper = four_paper(read_web(text), MOST)[0]
            told = [(place, [swap[:2] for swap in swaps]) for place, hue, swaps in paper if swaps]
            self.assertEqual(told, tries)

    def test_a_paper_whole(self):
        # Behind the others, aa meets 3, 1, 0 and 2; its first try leaves it 3.
        paper = [("south", 0, []), ("bd", 1, []), ("ba", 2, []), ("bc", 0, []), ("bb", 1, []), ("ad", 2, [])]
        paper += [("ab", 3, []), ("aa", 3, [("ab", 0, ["ab", "south"])]), ("north", 2, []), ("ac", 1, [])]
        self.assertEqual(four_paper(read_web(EARLY), 1), (paper, 1))

class NotFound(unittest.TestCase):
    def test_a_step_more_would_be_needed(self):
        for text, steps in [(EARLY, 1), (ONE_TRY, 12), (TWO_TRIES, 35), (THREE_HELD, 66)]:
            web = read_web(text)
            for most in range(steps):
                self.assertEqual(four_paper(web, most), (None, most))

    def test_all_tries_are_gone_through(self):
        # Five stand round the held place, so there are 15 tries by themselves, and 15 with 15 second ones each.
        self.assertEqual(four_paper(read_web(NEVER), MOST), (None, 15 + 15 + 15 * 15))
        self.assertEqual(four_paper(read_web(LATE_NEVER), MOST), (None, 270))

    def test_all_tries_are_gone_through_by_the_last_step(self):
        for text, steps in [(NEVER, 255), (LATE_NEVER, 270)]:
            web = read_web(text)
            for most in [0, 1, 14, 15, 16, 17, 31, 32, steps - 1, steps]:
                self.assertEqual(four_paper(web, most), (None, most))
            self.assertEqual(four_paper(web, steps + 1), (None, steps))


class ToldByHand(unittest.TestCase):
    def assert_as_by_hand(self, web):
        told = ByHand(web, MOST).told()
        self.assertEqual(four_paper(web, MOST), told)
        steps = told[1]
        for most in sorted({0, 1, steps // 2, max(steps - 1, 0), steps, steps + 1}):
            self.assertEqual(four_paper(web, most), ByHand(web, most).told())
        return told

    def test_webs_of_many_kinds(self):
        for web in flat_webs() + five_webs() + chance_webs(60) + chance_webs(20, 5, 7):
            self.assert_as_by_hand(web)

    def test_names_exchanged(self):
        chance = random.Random(14)
        met = set()
        for text in [EARLY, ONE_TRY, TWO_TRIES, THREE_HELD, NEVER, LATE_NEVER]:
            for k in range(40):
                web = Web(mixed(rounds(read_web(text)), chance))
                paper = self.assert_as_by_hand(web)[0]
                met.add(None if paper is None else max(held(paper), default=0))
        self.assertEqual(met, {None, 0, 1, 2})

    def test_the_mirrored_web(self):
        for web in [read_web(text) for text in [EARLY, ONE_TRY, TWO_TRIES, THREE_HELD, NEVER]] + chance_webs(40):
            for most in [0, 1, 20, MOST]:
                self.assertEqual(four_paper(mirrored(web), most), four_paper(web, most))


class Unchanged(unittest.TestCase):
    def test_asked_again_or_of_another_web_with_the_same_rounds(self):
        for text in [EARLY, TWO_TRIES, THREE_HELD]:
            web = read_web(text)
            ahead = rounds(web)
            paper, steps = four_paper(web, MOST)
            kept = copy.deepcopy(paper)
            spoil(paper)
            self.assertEqual(four_paper(web, MOST), (kept, steps))
            self.assertEqual(four_paper(same_rounds(web), MOST), (kept, steps))
            self.assertEqual(rounds(web), ahead)


if __name__ == "__main__":
    unittest.main()
