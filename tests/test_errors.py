"""The refusals, as the interface tells them."""

import unittest

from fivehues import errors

PLAIN = ["NoName", "Twice", "NoPlace", "NoText", "NoHue", "TooMany", "NoRing", "NotOne", "NoCorner", "NoTie"]
VALUED = {
    "OneWay": ["one", "other"],
    "NotFlat": ["many_places", "many_ties", "many_faces"],
    "Unread": ["at"],
    "Bridge": ["one", "other"],
}
ALL = PLAIN + list(VALUED)


def made(name):
    return getattr(errors, name)(*range(len(VALUED.get(name, []))))


class Refusals(unittest.TestCase):
    def test_fourteen(self):
        self.assertEqual(len(set(ALL)), 14)

    def test_straight_under_hue_error(self):
        self.assertEqual(errors.HueError.__bases__, (ValueError,))
        for name in ALL:
            with self.subTest(name=name):
                self.assertEqual(getattr(errors, name).__bases__, (errors.HueError,))

    def test_each_is_none_of_the_others(self):
        for name in ALL:
            error = made(name)
            self.assertIsInstance(error, errors.HueError)
            self.assertIsInstance(error, ValueError)
            for other in ALL:
                with self.subTest(name=name, other=other):
                    self.assertEqual(isinstance(error, getattr(errors, other)), name == other)

    def test_made_of_a_text_or_of_nothing(self):
        for name in PLAIN + ["HueError"]:
            with self.subTest(name=name):
                refusal = getattr(errors, name)
                self.assertEqual(str(refusal("why not")), "why not")
                self.assertEqual(str(refusal()), "")
                with self.assertRaises(refusal):
                    raise refusal

    def test_values_are_borne_by_their_names(self):
        values = {"one": "p", "other": "q", "many_places": 4, "many_ties": 6, "many_faces": 2, "at": 3}
        for name, fields in VALUED.items():
            error = getattr(errors, name)(*[values[field] for field in fields])
            for field in fields:
                with self.subTest(name=name, field=field):
                    self.assertEqual(getattr(error, field), values[field])

    def test_values_are_needed(self):
        for name, fields in VALUED.items():
            with self.subTest(name=name):
                with self.assertRaises(TypeError):
                    getattr(errors, name)()


if __name__ == "__main__":
    unittest.main()
