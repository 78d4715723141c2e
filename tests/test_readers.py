"""Promise 12: the reader of papers."""

import copy
import unittest

from fivehues.errors import HueError, Unread
from fivehues.readers import read_paper
from fivehues.webs import Web
from tests.helpers import BOW, STAR, TRIANGLE, grid, rounds

# For the two triangles that share a place: swaps in one step that undo one another, then two chains together.
PAPER = [
    ("a", 0, []),
    ("b", 1, []),
    ("d", 1, [("a", 1, ["a", "b"]), ("a", 0, ["a", "b"])]),
    ("c", 3, [("b", 2, ["b", "d"])]),
    ("e", 1, []),
]

NO_HUES = [True, False, None, "", "1", "a", [], [1], (), {}, b"1", -1, -10 ** 9, 5, 6, 10 ** 9]


def with_step(at, step):
    """The paper with another step in one place."""
    return PAPER[:at] + [step] + PAPER[at + 1:]


class Read(unittest.TestCase):
    def assert_read(self, rows, paper, many, told):
        self.assertEqual(read_paper(Web(rows), paper, many), told)

    def test_no_places(self):
        for many in [1, 5, 10]:
            self.assert_read([], [], many, {})

    def test_no_swaps(self):
        paper = [("b", 0, []), ("a", 2, []), ("c", 1, [])]
        for many in range(3, 11):
            self.assert_read(TRIANGLE, paper, many, {"a": 2, "b": 0, "c": 1})

    def test_one_hue(self):
        self.assert_read([("a", []), ("b", [])], [("b", 0, []), ("a", 0, [])], 1, {"a": 0, "b": 0})

    def test_two_hues(self):
        paper = [("m", 1, []), ("c", 0, []), ("a", 1, [("m", 0, ["c", "m"])]), ("b", 1, [])]
        self.assert_read(STAR, paper, 2, {"m": 0, "c": 1, "a": 1, "b": 1})

    def test_ten_hues(self):
        paper = [("a", 9, []), ("b", 8, []), ("c", 9, [("a", 7, ["a"])])]
        self.assert_read(TRIANGLE, paper, 10, {"a": 7, "b": 8, "c": 9})

    def test_many_by_its_place_by_its_name_and_left_out(self):
        web = Web(TRIANGLE)
        paper = [("a", 4, []), ("b", 0, []), ("c", 1, [])]
        told = {"a": 4, "b": 0, "c": 1}
        self.assertEqual(read_paper(web, paper), told)
        self.assertEqual(read_paper(web, paper, 5), told)
        self.assertEqual(read_paper(web, paper, many=5), told)
        self.assertEqual(read_paper(web, paper, many=10), told)
        for ask in [lambda: read_paper(web, paper, 4), lambda: read_paper(web, paper, many=4)]:
            with self.assertRaises(Unread):
                ask()
        with self.assertRaises(Unread):
            read_paper(web, [("a", 5, []), ("b", 0, []), ("c", 1, [])])
        self.assertEqual(read_paper(web, [("a", 5, []), ("b", 0, []), ("c", 1, [])], many=6), {"a": 5, "b": 0, "c": 1})

    def test_one_swap(self):
        paper = [("a", 0, []), ("b", 1, []), ("c", 0, [("a", 2, ["a"])])]
        self.assert_read(TRIANGLE, paper, 3, {"a": 2, "b": 1, "c": 0})
        paper = [("a", 0, []), ("b", 1, []), ("c", 2, [("a", 1, ["a", "b"])])]
        self.assert_read(TRIANGLE, paper, 3, {"a": 1, "b": 0, "c": 2})

    def test_several_swaps_and_several_chains_together(self):
        self.assert_read(BOW, PAPER, 5, {"a": 0, "b": 2, "c": 3, "d": 2, "e": 1})

    def test_a_swap_of_all_chains_of_two_hues(self):
        web = Web(grid(3, 3))
        corners = ["aa", "ac", "ca", "cc"]
        paper = [(place, at % 2, []) for at, place in enumerate(corners)]
        paper += [("bb", 2, [("ca", 1, ["aa", "ac", "ca", "cc"])])]
        paper += [(place, 3, []) for place in ["ab", "ba", "bc", "cb"]]
        told = {"aa": 1, "ac": 0, "ca": 1, "cc": 0, "bb": 2, "ab": 3, "ba": 3, "bc": 3, "cb": 3}
        self.assertEqual(read_paper(web, paper, 4), told)

    def test_a_swap_over_a_place_without_a_hue(self):
        paper = [("b", 0, []), ("d", 1, []), ("a", 0, [("b", 1, ["b"])]), ("c", 2, []), ("e", 2, [])]
        self.assert_read(BOW, paper, 3, {"b": 1, "d": 1, "a": 0, "c": 2, "e": 2})


class Refused(unittest.TestCase):
    def assert_unread(self, at, paper, many=5, rows=BOW):
        web = Web(rows)
        ahead = copy.deepcopy(paper)
        with self.subTest(at=at, paper=paper):
            with self.assertRaises(Unread) as caught:
                read_paper(web, paper, many)
            self.assertIs(type(caught.exception), Unread)
            self.assertIsInstance(caught.exception, HueError)
            self.assertIsInstance(caught.exception, ValueError)
            self.assertEqual(caught.exception.at, at)
            self.assertEqual(paper, ahead)
            self.assertEqual(rounds(web), rounds(Web(rows)))

    def assert_swap_unread(self, swap):
        """A swap by itself, ahead of a right one and behind one, ahead of the step that is numbered 3."""
        self.assert_unread(3, with_step(3, ("c", 4, [swap])))
        self.assert_unread(3, with_step(3, ("c", 4, [swap, ("a", 3, ["a"])])))
        self.assert_unread(3, with_step(3, ("c", 4, [("a", 3, ["a"]), ("a", 0, ["a"]), swap])))

    def test_the_place_is_none_of_the_web(self):
        for at in range(5):
            self.assert_unread(at, with_step(at, ("q", 4, [])))

    def test_the_place_has_a_hue_already(self):
        self.assert_unread(1, with_step(1, ("a", 0, [])))
        self.assert_unread(4, with_step(4, ("b", 4, [])))
        self.assert_unread(5, PAPER + [("e", 1, [])])

    def test_the_hue_is_no_hue(self):
        for hue in NO_HUES:
            self.assert_unread(0, [("a", hue, [])] + PAPER[1:])
            self.assert_unread(4, with_step(4, ("e", hue, [])))

    def test_the_hue_is_many_or_more(self):
        for many in range(1, 11):
            for hue in [many, many + 1]:
                self.assert_unread(0, [("a", hue, [])], many, [("a", [])])

    def test_the_hue_is_that_of_one_tied_to_the_place(self):
        self.assert_unread(1, with_step(1, ("b", 0, [])))
        self.assert_unread(3, with_step(3, ("c", 2, PAPER[3][2])))
        self.assert_unread(4, with_step(4, ("e", 0, [])))
        self.assert_unread(4, with_step(4, ("e", 2, [])))

    def test_start_has_no_hue(self):
        for start in ["c", "e", "q"]:
            self.assert_swap_unread((start, 2, [start]))
            self.assert_swap_unread((start, 2, []))
            self.assert_swap_unread((start, 2, ["b"]))
        self.assert_unread(0, [("a", 0, [("a", 1, ["a"])])] + PAPER[1:])

    def test_other_is_no_hue(self):
        for other in NO_HUES:
            self.assert_swap_unread(("b", other, ["b"]))
            self.assert_swap_unread(("a", other, ["a"]))
            self.assert_swap_unread(("a", other, ["a", "b", "d"]))

    def test_other_is_many_or_more(self):
        for many in range(1, 11):
            steps = [("a", 0, []), ("b", 0, [("a", many, ["a"])])]
            self.assert_unread(1, steps, many, [("a", []), ("b", [])])

    def test_other_is_the_hue_of_start(self):
        self.assert_swap_unread(("b", 1, ["b"]))
        self.assert_swap_unread(("b", 1, ["b", "d"]))
        self.assert_swap_unread(("a", 0, ["a"]))

    def test_the_chain_is_not_rising(self):
        self.assert_swap_unread(("b", 2, ["d", "b"]))
        self.assert_swap_unread(("a", 1, ["a", "d", "b"]))

    def test_the_chain_has_one_twice(self):
        self.assert_swap_unread(("b", 2, ["b", "b"]))
        self.assert_swap_unread(("b", 2, ["b", "b", "d"]))

    def test_the_chain_has_one_without_a_hue(self):
        self.assert_swap_unread(("b", 2, ["b", "q"]))
        self.assert_swap_unread(("b", 2, ["aa", "b"]))
        self.assert_swap_unread(("b", 2, ["b", "e"]))
        self.assert_swap_unread(("b", 2, ["b", "c"]))

    def test_the_chain_lacks_start(self):
        self.assert_swap_unread(("b", 2, []))
        self.assert_swap_unread(("b", 2, ["d"]))

    def test_the_chain_has_a_place_of_a_third_hue(self):
        self.assert_swap_unread(("b", 2, ["a", "b"]))
        self.assert_swap_unread(("b", 2, ["a", "b", "d"]))

    def test_the_chain_leaves_out_one_tied_to_it(self):
        self.assert_swap_unread(("a", 1, ["a"]))
        self.assert_swap_unread(("a", 1, ["a", "b"]))
        self.assert_swap_unread(("a", 1, ["a", "d"]))
        self.assert_swap_unread(("b", 0, ["b"]))
        self.assert_swap_unread(("b", 0, ["b", "d"]))

    def test_a_chain_joined_with_one_that_is_not_whole(self):
        line = [("a", ["b"]), ("b", ["a", "c"]), ("c", ["b", "d"]), ("d", ["c"]), ("e", [])]
        steps = [("a", 0, []), ("c", 0, []), ("d", 1, []), ("b", 2, []), ("e", 0, [("a", 1, ["a", "c"])])]
        self.assert_unread(4, steps, 3, line)
        steps[4] = ("e", 0, [("a", 1, ["a", "c", "d"])])
        told = read_paper(Web(line), steps, 3)
        self.assertEqual(told, {"a": 1, "b": 2, "c": 1, "d": 0, "e": 0})

    def test_swaps_are_done_in_order(self):
        first, second = ("a", 1, ["a", "b", "d"]), ("b", 2, ["b", "d"])
        told = read_paper(Web(BOW), PAPER[:3] + [("c", 3, [first, second]), ("e", 0, [])])
        self.assertEqual(told, {"a": 1, "b": 2, "c": 3, "d": 2, "e": 0})
        self.assert_unread(3, PAPER[:3] + [("c", 3, [second, first]), ("e", 0, [])])

    def test_places_lack_hues_behind_the_last_step(self):
        for at in range(5):
            self.assert_unread(at, PAPER[:at])
        self.assert_unread(0, [], rows=[("a", [])])
        self.assert_unread(3, [("a", 0, []), ("b", 1, []), ("c", 2, [])], rows=TRIANGLE + [("d", [])])

    def test_the_web_without_places(self):
        self.assert_unread(0, [("a", 0, [])], rows=[])

    def test_the_first_step_that_is_not_right(self):
        wrong = [("q", 0, []), ("a", 0, []), ("a", None, []), ("a", 5, []), ("q", 0, [("q", 0, [])])]
        for at in range(5):
            for later in range(at + 1, 5):
                for one in wrong[:1] + wrong[2:]:
                    for other in wrong:
                        paper = with_step(at, one)
                        paper[later] = other
                        self.assert_unread(at, paper)
        self.assert_unread(1, [PAPER[0], ("q", 0, [])])


class Unchanged(unittest.TestCase):
    def test_the_web_and_the_paper_stay(self):
        web = Web(BOW)
        paper = copy.deepcopy(PAPER)
        read_paper(web, paper)
        self.assertEqual(paper, PAPER)
        self.assertEqual(rounds(web), BOW)

    def test_what_is_told_is_the_askers_own(self):
        web = Web(BOW)
        told = read_paper(web, PAPER)
        kept = dict(told)
        told["a"] = 9
        told.pop("b")
        self.assertEqual(read_paper(web, PAPER), kept)
        self.assertEqual(read_paper(Web(BOW[::-1]), PAPER), kept)


if __name__ == "__main__":
    unittest.main()
