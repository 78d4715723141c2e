"""Promise 5: faces, pieces and flatness."""

import unittest

from fivehues.errors import NotFlat
from fivehues.faces import faces, pieces
from fivehues.webs import Web
from tests.helpers import BOW, FOUR, PIECES, STAR, TRIANGLE, flat_webs, grid, rounds, same_rounds, twisted


def steps_of(face):
    """The steps of a face with ties."""
    return list(zip(face, face[1:] + face[:1]))


class Faces(unittest.TestCase):
    def assert_faces(self, rows, told):
        self.assertEqual(faces(Web(rows)), told)

    def test_no_places(self):
        self.assert_faces([], [])

    def test_places_without_ties(self):
        self.assert_faces([("b", []), ("a", [])], [["a"], ["b"]])

    def test_one_tie(self):
        self.assert_faces([("b", ["a"]), ("a", ["b"])], [["a", "b"]])

    def test_triangle(self):
        self.assert_faces(TRIANGLE, [["a", "b", "c"], ["a", "c", "b"]])

    def test_four_places_each_tied_to_each(self):
        self.assert_faces(FOUR, [["a", "b", "d"], ["a", "c", "b"], ["a", "d", "c"], ["b", "c", "d"]])

    def test_a_face_with_one_place_several_times(self):
        self.assert_faces([("a", ["b"]), ("b", ["a", "c"]), ("c", ["b"])], [["a", "b", "c", "b"]])
        self.assert_faces(STAR, [["a", "m", "b", "m", "c", "m"]])
        self.assert_faces(BOW, [["a", "b", "c", "a", "d", "e"], ["a", "c", "b"], ["a", "e", "d"]])

    def test_a_face_begins_with_its_least_step(self):
        rows = [("a", ["d", "c", "b"]), ("b", ["a"]), ("c", ["a"]), ("d", ["a"])]
        self.assert_faces(rows, [["a", "b", "a", "d", "a", "c"]])

    def test_several_pieces(self):
        self.assert_faces(PIECES, [["a"], ["b", "x", "y"], ["b", "y", "x"], ["c", "d"], ["z"]])

    def test_forty_places(self):
        told = faces(Web(grid()))
        self.assertEqual(len(told), 29)
        self.assertEqual(sorted([len(face) for face in told]), [4] * 28 + [22])

    def test_each_step_lies_on_one_face_and_goes_on_as_told(self):
        for web in flat_webs():
            told = faces(web)
            self.assertEqual(told, sorted(told))
            gone = []
            for face in [face for face in told if len(face) > 1]:
                steps = steps_of(face)
                self.assertEqual(steps[0], min(steps))
                gone += steps
                for (p, q), (start, to) in zip(steps, steps[1:] + steps[:1]):
                    around = web.round_of(q)
                    self.assertEqual((start, to), (q, (around + around)[around.index(p) + 1]))
            self.assertEqual(sorted(gone), sorted(web.ties() + [(other, one) for one, other in web.ties()]))
            alone = [[place] for place in web.places() if not web.round_of(place)]
            self.assertEqual([face for face in told if len(face) == 1], alone)


class Pieces(unittest.TestCase):
    def test_no_places(self):
        self.assertEqual(pieces(Web([])), [])

    def test_places_without_ties(self):
        self.assertEqual(pieces(Web([("b", []), ("a", [])])), [["a"], ["b"]])

    def test_one_piece(self):
        self.assertEqual(pieces(Web(BOW)), [["a", "b", "c", "d", "e"]])
        self.assertEqual(pieces(Web(grid())), [sorted([place for place, around in grid()])])

    def test_several_pieces(self):
        self.assertEqual(pieces(Web(PIECES)), [["a"], ["b", "x", "y"], ["c", "d"], ["z"]])

    def test_pieces_whose_places_are_mixed(self):
        rows = [("a", ["z"]), ("z", ["a", "c"]), ("c", ["z"]), ("b", ["y"]), ("y", ["b"])]
        self.assertEqual(pieces(Web(rows)), [["a", "c", "z"], ["b", "y"]])


class Unchanged(unittest.TestCase):
    def test_told_lists_are_the_askers_own(self):
        web = Web(PIECES)
        for ask in [faces, pieces]:
            ahead = ask(web)
            told = ask(web)
            for inner in told:
                inner.append("q")
            told.clear()
            self.assertEqual(ask(web), ahead)

    def test_the_web_stays_as_it_was(self):
        web = Web(BOW)
        faces(web).clear()
        pieces(web)[0].clear()
        self.assertEqual(rounds(web), BOW)

    def test_another_web_with_the_same_rounds_tells_the_same(self):
        web = Web(PIECES)
        self.assertEqual(faces(same_rounds(web)), faces(web))
        self.assertEqual(pieces(same_rounds(web)), pieces(web))


class Flatness(unittest.TestCase):
    def assert_not_flat(self, rows, many_places, many_ties, many_faces):
        with self.assertRaises(NotFlat) as caught:
            Web(rows)
        error = caught.exception
        told = (error.many_places, error.many_ties, error.many_faces)
        self.assertEqual(told, (many_places, many_ties, many_faces))

    def test_flat_webs_are_flat_by_count(self):
        for web in flat_webs():
            for piece in pieces(web):
                many_faces = len([face for face in faces(web) if face[0] in piece])
                many_ties = len([tie for tie in web.ties() if tie[0] in piece])
                self.assertEqual(len(piece) + many_faces, many_ties + 2)

    def test_one_round_turned_about(self):
        self.assert_not_flat(twisted(), 4, 6, 2)

    def test_a_tube_closed_to_a_wheel(self):
        self.assert_not_flat(grid(3, 3, closed=True), 9, 18, 9)
        self.assert_not_flat(grid(5, 8, closed=True), 40, 80, 40)

    def test_three_tied_to_three(self):
        rows = [(one, ["x", "y", "z"]) for one in "abc"] + [(one, ["a", "b", "c"]) for one in "xyz"]
        self.assert_not_flat(rows, 6, 9, 3)

    def test_a_piece_that_is_not_flat_beside_flat_ones(self):
        self.assert_not_flat([("a", [])] + twisted("m") + [("z", [])], 4, 6, 2)

    def test_the_first_piece_by_its_least_place(self):
        tube = [("q" + place, ["q" + other for other in around]) for place, around in grid(3, 3, closed=True)]
        self.assert_not_flat(tube + twisted("a"), 4, 6, 2)
        self.assert_not_flat(twisted("a") + tube, 4, 6, 2)
        self.assert_not_flat(tube + twisted("u"), 9, 18, 9)
        self.assert_not_flat(twisted("u") + tube, 9, 18, 9)

    def test_pieces_are_not_counted_together(self):
        # Two lone places make two faces too many for one piece, a twisted piece two too few.
        self.assert_not_flat(twisted() + [("x", []), ("y", [])], 4, 6, 2)


if __name__ == "__main__":
    unittest.main()
