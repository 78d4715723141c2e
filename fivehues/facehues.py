"""Hues of faces."""

from fivehues.faces import faces
from fivehues.fives import five_hues
from fivehues.otherwebs import face_name, other_web


def face_hues(web):
    """A tuple (face, hue) for each face, sorted by faces; faces beside one another have unlike hues, all below 5."""
    hues = five_hues(other_web(web))
    return [(face, hues[face_name(at)]) for at, face in enumerate(faces(web))]
