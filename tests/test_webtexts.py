"""Promise 7: webs as texts."""

import itertools
import re
import unittest

from fivehues.errors import HueError, NoName, NoText, NotFlat, OneWay, Twice
from fivehues.webs import Web
from fivehues.webtexts import read_web, web_text
from tests.helpers import BOW, FOUR, PIECES, TRIANGLE, chance_webs, flat_webs, grid, rounds, twisted

# The form of a text, told once more in another way than the program does it.
FORM = re.compile(r"-|[a-z]{1,8}:( [a-z]{1,8})*(; [a-z]{1,8}:( [a-z]{1,8})*)*")


def text_of(rows):
    """The text of rows as they stand."""
    return "; ".join([place + ":" + "".join([" " + other for other in around]) for place, around in rows])


def told_of(text):
    """The refusal of a text by its name, or None where it is read."""
    try:
        read_web(text)
    except HueError as error:
        return error.__class__.__name__
    return None


class Written(unittest.TestCase):
    def assert_text(self, rows, text):
        self.assertEqual(web_text(Web(rows)), text)
        self.assertEqual(rounds(read_web(text)), rounds(Web(rows)))

    def test_no_places(self):
        self.assert_text([], "-")

    def test_one_place_without_ties(self):
        self.assert_text([("a", [])], "a:")
        self.assert_text([("abcdefgh", [])], "abcdefgh:")

    def test_one_piece(self):
        self.assert_text(TRIANGLE, "a: b c; b: a c; c: a b")
        self.assert_text(TRIANGLE[::-1], "a: b c; b: a c; c: a b")
        self.assert_text(FOUR, "a: b c d; b: a d c; c: a b d; d: a c b")

    def test_several_pieces(self):
        self.assert_text([("b", []), ("a", [])], "a:; b:")
        self.assert_text(PIECES, "a:; b: x y; c: d; d: c; x: b y; y: b x; z:")

    def test_forty_places(self):
        text = web_text(Web(grid()))
        self.assertEqual(text[:35], "aa: ab ba; ab: aa ac bb; ac: ab ad ")
        self.assertEqual(text.count(";"), 39)
        self.assert_text(grid(), text)

    def test_rounds_from_the_least_on(self):
        rows = [("m", ["c", "a", "d", "b"])] + [(leaf, ["m"]) for leaf in "dbca"]
        self.assert_text(rows, "a: m; b: m; c: m; d: m; m: a d b c")

    def test_read_back(self):
        for web in flat_webs() + chance_webs(20):
            self.assertRegex(web_text(web), FORM)
            self.assertEqual(rounds(read_web(web_text(web))), rounds(web))


class Read(unittest.TestCase):
    def test_a_web_is_told(self):
        self.assertIsInstance(read_web("-"), Web)
        self.assertIsInstance(read_web("a: b; b: a"), Web)

    def test_places_in_any_order(self):
        for rows in itertools.permutations(FOUR):
            self.assertEqual(rounds(read_web(text_of(rows))), rounds(Web(FOUR)))

    def test_rounds_begun_with_any_one(self):
        for at in range(4):
            text = text_of([(place, around[at:] + around[:at]) for place, around in BOW[::-1]])
            self.assertEqual(rounds(read_web(text)), BOW)

    def test_the_web_stays_as_it_was(self):
        web = Web(BOW)
        web_text(web)
        self.assertEqual(rounds(web), BOW)


class NoTexts(unittest.TestCase):
    def assert_no_text(self, thing):
        with self.subTest(thing=thing):
            with self.assertRaises(NoText):
                read_web(thing)

    def test_of_anything(self):
        for thing in [0, 1, -1, True, False, None, [], ["a:"], (), ("a:",), {}, {"a": []}, b"", b"-", b"a:", object()]:
            self.assert_no_text(thing)

    def test_nothing_and_signs_alone(self):
        for text in ["", " ", ":", ";", "; ", ": ", " :", "\n", "--", "- -", "a", "a b", "a; b"]:
            self.assert_no_text(text)

    def test_a_dash_beside_something_else(self):
        for text in [" -", "- ", "-\n", "-:", "-; a:", "a:; -", "a: -", "-; -", "-a:", "a:-"]:
            self.assert_no_text(text)

    def test_blanks(self):
        for text in [" a:", "a: ", "a :", "a: b  c; b: a c; c: a b", "a:  b; b: a", "a: b ; b: a", "a: b;  b: a"]:
            self.assert_no_text(text)

    def test_signs_too_few(self):
        for text in ["a:b; b: a", "a: b; b:a", "a: b;b: a", "a: b b: a", "a b; b: a", "a: b; b a", "a: b, b: a"]:
            self.assert_no_text(text)

    def test_signs_too_many(self):
        for text in ["a::", ":a:", "a: b:; b: a", "a: b;; b: a", "a:;", "a:; ", "; a:", "a:.", "a: b; b: a;"]:
            self.assert_no_text(text)

    def test_no_names(self):
        for word in ["A", "aB", "1", "a1", "abcdefghi", "a-b", "a_b", "a\n", "`", "{", "~", "a.b", "'a'", "\u00e4"]:
            self.assert_no_text(word + ":")
            self.assert_no_text(f"a: {word}")
            self.assert_no_text(f"{word}: a; a: {word}")

    def test_line_feeds(self):
        for text in ["a:\n", "\na:", "a:\nb:", "a:;\nb:", "a:\n b; b: a", "a: b\n; b: a"]:
            self.assert_no_text(text)

    def test_no_text_goes_ahead_of_all(self):
        for text in ["a: a a; a: b; B:", "a: b b;", "q: r; a: b  c", text_of(twisted()) + "\n", "a: a; "]:
            self.assert_no_text(text)

    def test_a_sign_put_in_or_left_out_or_exchanged_anywhere(self):
        for text in ["a:", "-", "a: b; b: a", "ab: c d; c: ab d; d: ab c; abcdefgh:"]:
            for at in range(len(text) + 1):
                for sign in ["", " ", ":", ";", "-", "b", "A", "7", "\n", "~"]:
                    for rest in [text[at:], text[at + 1:]]:
                        changed = text[:at] + sign + rest
                        with self.subTest(changed=changed):
                            self.assertEqual(told_of(changed) == "NoText", FORM.fullmatch(changed) is None)


class RefusedAsRows(unittest.TestCase):
    def test_twice(self):
        for text in ["a:; a:", "a: b b; b: a", "a: q q", "a: b; b: a; a: b"]:
            with self.subTest(text=text):
                with self.assertRaises(Twice):
                    read_web(text)

    def assert_one_way(self, text, one, other):
        with self.assertRaises(OneWay) as caught:
            read_web(text)
        self.assertEqual((caught.exception.one, caught.exception.other), (one, other))

    def test_one_way(self):
        self.assert_one_way("a: b", "a", "b")
        self.assert_one_way("a: a", "a", "a")
        self.assert_one_way("a:; b: a", "b", "a")

    def test_one_way_by_places_and_rounds_as_they_stand(self):
        self.assert_one_way("c: q; a: p", "c", "q")
        self.assert_one_way("a: p; c: q", "a", "p")
        self.assert_one_way("b: d q c a; d: b", "b", "q")
        self.assert_one_way("b: c a q d; d: b", "b", "c")

    def test_not_flat(self):
        with self.assertRaises(NotFlat) as caught:
            read_web(text_of([("x", [])] + twisted() + [("y", [])]))
        error = caught.exception
        self.assertEqual((error.many_places, error.many_ties, error.many_faces), (4, 6, 2))

    def test_the_one_named_first_goes_first(self):
        self.assertEqual(told_of(text_of(twisted()) + "; q: r; p:; p:"), "Twice")
        self.assertEqual(told_of(text_of(twisted()) + "; q: r"), "OneWay")

    def test_never_no_name(self):
        for thing in ["A:", "a: B", "1:", "abcdefghi:", ":", "", None, 3]:
            with self.subTest(thing=thing):
                self.assertEqual(told_of(thing), "NoText")
                self.assertNotEqual(told_of(thing), NoName.__name__)


if __name__ == "__main__":
    unittest.main()
