"""Promise 6: webs mirrored and renamed."""

import unittest

from fivehues.errors import NoName, NoPlace, Twice
from fivehues.faces import faces, pieces
from fivehues.images import mirrored, renamed
from fivehues.webs import Web
from tests.helpers import BOW, FOUR, NO_NAMES, PIECES, STAR, TRIANGLE, flat_webs, rounds


class Mirrored(unittest.TestCase):
    def test_each_round_is_turned_about(self):
        self.assertEqual(
            rounds(mirrored(Web(FOUR))),
            [("a", ["b", "d", "c"]), ("b", ["a", "c", "d"]), ("c", ["a", "d", "b"]), ("d", ["a", "b", "c"])],
        )
        self.assertEqual(mirrored(Web(BOW)).round_of("a"), ["b", "e", "d", "c"])
        self.assertEqual(rounds(mirrored(Web([]))), [])

    def test_faces_are_mirrored(self):
        self.assertEqual(faces(mirrored(Web(STAR))), [["a", "m", "c", "m", "b", "m"]])
        self.assertEqual(
            faces(mirrored(Web(FOUR))), [["a", "b", "c"], ["a", "c", "d"], ["a", "d", "b"], ["b", "d", "c"]]
        )

    def test_mirrored_twice(self):
        for web in flat_webs():
            self.assertEqual(rounds(mirrored(mirrored(web))), rounds(web))

    def test_ties_pieces_and_many_faces_stay(self):
        for web in flat_webs():
            image = mirrored(web)
            self.assertIsInstance(image, Web)
            self.assertEqual(image.ties(), web.ties())
            self.assertEqual(pieces(image), pieces(web))
            self.assertEqual(len(faces(image)), len(faces(web)))

    def test_the_web_stays_as_it_was(self):
        web = Web(BOW)
        mirrored(web)
        self.assertEqual(rounds(web), BOW)


class Renamed(unittest.TestCase):
    def test_new_names(self):
        image = renamed(Web(TRIANGLE), {"a": "z", "b": "abcdefgh", "c": "m"})
        self.assertEqual(
            rounds(image), [("abcdefgh", ["m", "z"]), ("m", ["abcdefgh", "z"]), ("z", ["abcdefgh", "m"])]
        )

    def test_rounds_keep_their_order_and_begin_with_the_new_least(self):
        image = renamed(Web(BOW), {"a": "a", "b": "z", "c": "y", "d": "x", "e": "w"})
        self.assertEqual(image.round_of("a"), ["w", "z", "y", "x"])

    def test_own_names_turned_about(self):
        turn = {"a": "b", "b": "c", "c": "d", "d": "e", "e": "a"}
        image = renamed(Web(BOW), turn)
        self.assertEqual(image.round_of("b"), ["a", "c", "d", "e"])
        self.assertEqual(image.round_of("a"), ["b", "e"])
        for k in range(4):
            image = renamed(image, turn)
        self.assertEqual(rounds(image), BOW)

    def test_two_names_exchanged(self):
        image = renamed(Web(STAR), {"m": "a", "a": "m", "b": "b", "c": "c"})
        self.assertEqual(rounds(image), [("a", ["b", "c", "m"]), ("b", ["a"]), ("c", ["a"]), ("m", ["a"])])

    def test_every_name_its_own(self):
        for web in flat_webs():
            self.assertEqual(rounds(renamed(web, {place: place for place in web.places()})), rounds(web))

    def test_no_places(self):
        self.assertEqual(rounds(renamed(Web([]), {})), [])

    def test_many_faces_stay(self):
        for web in flat_webs():
            image = renamed(web, {place: place[::-1] + "q" for place in web.places()})
            self.assertIsInstance(image, Web)
            self.assertEqual(len(faces(image)), len(faces(web)))
            self.assertEqual(len(image.ties()), len(web.ties()))


class Refused(unittest.TestCase):
    def assert_refused(self, refusal, names):
        web = Web(TRIANGLE)
        ahead = dict(names)
        with self.assertRaises(refusal):
            renamed(web, names)
        self.assertEqual(names, ahead)
        self.assertEqual(rounds(web), TRIANGLE)

    def test_a_key_is_no_place(self):
        self.assert_refused(NoPlace, {"a": "x", "b": "y", "c": "z", "d": "w"})
        self.assert_refused(NoPlace, {"a": "x", "b": "y", "d": "z"})
        with self.assertRaises(NoPlace):
            renamed(Web([]), {"a": "b"})

    def test_a_place_is_no_key(self):
        self.assert_refused(NoPlace, {"a": "x", "b": "y"})
        self.assert_refused(NoPlace, {})

    def test_a_new_one_is_no_name(self):
        for thing in NO_NAMES:
            for place in ["a", "b", "c"]:
                with self.subTest(thing=thing, place=place):
                    names = {"a": "x", "b": "y", "c": "z"}
                    names[place] = thing
                    self.assert_refused(NoName, names)

    def test_a_lone_place_gets_no_name(self):
        with self.assertRaises(NoName):
            renamed(Web([("a", [])]), {"a": ["b"]})

    def test_two_get_one_name(self):
        self.assert_refused(Twice, {"a": "x", "b": "x", "c": "z"})
        self.assert_refused(Twice, {"a": "a", "b": "b", "c": "a"})
        with self.assertRaises(Twice):
            renamed(Web([("a", []), ("b", [])]), {"a": "q", "b": "q"})

    def test_no_place_goes_ahead_of_no_name(self):
        self.assert_refused(NoPlace, {"a": None, "b": "y"})
        self.assert_refused(NoPlace, {"a": "x", "b": "y", "c": "z", "d": []})

    def test_no_place_goes_ahead_of_twice(self):
        self.assert_refused(NoPlace, {"a": "x", "b": "x", "d": "z"})

    def test_no_name_goes_ahead_of_twice(self):
        self.assert_refused(NoName, {"a": "x", "b": "x", "c": "X"})
        self.assert_refused(NoName, {"a": {}, "b": {}, "c": "x"})


class Unchanged(unittest.TestCase):
    def test_the_web_and_the_dict_stay_as_they_were(self):
        web = Web(PIECES)
        ahead = rounds(web)
        names = {place: place + "q" for place in web.places()}
        renamed(web, names)
        self.assertEqual(rounds(web), ahead)
        self.assertEqual(list(names.items()), [(place, place + "q") for place in web.places()])

    def test_the_dict_changed_behind_the_call(self):
        names = {"a": "x", "b": "y", "c": "z"}
        image = renamed(Web(TRIANGLE), names)
        names["a"] = "q"
        names.pop("b")
        self.assertEqual(image.places(), ["x", "y", "z"])


if __name__ == "__main__":
    unittest.main()
