"""Promise 23: hues of faces."""

import copy
import random
import unittest

from fivehues.errors import Bridge, NotOne
from fivehues.faces import faces
from fivehues.facehues import face_hues
from fivehues.images import mirrored
from fivehues.webs import Web
from tests.helpers import BOW, FOUR, PIECES, STAR, TRIANGLE, beside, caps, mixed, pairs_round, refusal, ring_rows
from tests.helpers import rounds, same_rounds
from tests.test_otherwebs import bridges, thin_webs, webs_with_other


class FaceHues(unittest.TestCase):
    def assert_face_hues(self, web):
        told = face_hues(web)
        self.assertIsInstance(told, list)
        self.assertEqual([face for face, hue in told], faces(web))
        side = {}
        for row in told:
            self.assertIsInstance(row, tuple)
            face, hue = row
            self.assertIs(type(hue), int)
            self.assertIn(hue, range(5))
            side.update({step: hue for step in pairs_round(face)})
        self.assertEqual([tie for tie in web.ties() if side[tie] == side[tie[::-1]]], [])

    def test_one_place(self):
        told = face_hues(Web([("q", [])]))
        self.assertEqual([face for face, hue in told], [["q"]])
        self.assert_face_hues(Web([("q", [])]))

    def test_small_ones(self):
        for rows in [TRIANGLE, FOUR, BOW, ring_rows(5), ring_rows(16), caps(), caps(2, 7)]:
            self.assert_face_hues(Web(rows))

    def test_each_web_and_its_images(self):
        chance = random.Random(23)
        for web in webs_with_other():
            self.assert_face_hues(web)
            self.assert_face_hues(mirrored(web))
            self.assert_face_hues(Web(mixed(rounds(web), chance)))

    def test_refused(self):
        for rows in [[], PIECES, [("a", []), ("b", [])], beside(TRIANGLE, FOUR), beside(STAR, STAR)]:
            self.assertIs(refusal(face_hues, Web(rows)), NotOne)
        for web in [Web(STAR)] + [web for web in thin_webs(10, True) if bridges(web)]:
            with self.assertRaises(Bridge) as caught:
                face_hues(web)
            self.assertIs(type(caught.exception), Bridge)
            self.assertEqual((caught.exception.one, caught.exception.other), min(bridges(web)))


class Unchanged(unittest.TestCase):
    def test_asked_again_or_of_another_web_with_the_same_rounds(self):
        for web in webs_with_other():
            ahead = rounds(web)
            told = face_hues(web)
            kept = copy.deepcopy(told)
            for face, hue in told:
                face.append("q")
            told.clear()
            self.assertEqual(face_hues(web), kept)
            self.assertEqual(face_hues(same_rounds(web)), kept)
            self.assertEqual(rounds(web), ahead)


if __name__ == "__main__":
    unittest.main()
