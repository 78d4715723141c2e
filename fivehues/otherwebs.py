"""The other web of a web: its places are the faces."""

from fivehues.errors import Bridge, NotOne
from fivehues.faces import faces, pieces
from fivehues.webs import Web

LETTERS = "abcdefghijklmnopqrstuvwxyz"


def face_name(at):
    """The name of the face at a number of the sorted order: aa, ab .. az, ba and so on, behind zz aaa."""
    name = ""
    # Names of one letter go ahead of these, and are left out.
    left = at + 1 + len(LETTERS)
    while left:
        left, last = divmod(left - 1, len(LETTERS))
        name = LETTERS[last] + name
    return name


def steps_of(face):
    """The steps of a face, in their order; that of a place without ties has none."""
    return [(one, other) for one, other in zip(face, face[1:] + face[:1]) if one != other]


def two_faces(lies, one, other):
    """The two faces on which a tie has its steps, the less one first."""
    return tuple(sorted([lies[(one, other)], lies[(other, one)]]))


def counting_ties(web, lies):
    """For each two faces that are beside one another the least tie that has its steps on them."""
    counting = {}
    for one, other in web.ties():
        if lies[(one, other)] == lies[(other, one)]:
            raise Bridge(one, other)
        counting.setdefault(two_faces(lies, one, other), (one, other))
    return counting


def other_web(web):
    """The web whose places are the faces of a web, tied where they are beside one another."""
    if len(pieces(web)) != 1:
        raise NotOne("the other web of what has not just one piece")
    told = faces(web)
    lies = {step: face_name(at) for at, face in enumerate(told) for step in steps_of(face)}
    counting = counting_ties(web, lies)
    rows = []
    for at, face in enumerate(told):
        steps = [step for step in steps_of(face) if counting[two_faces(lies, step[0], step[1])] in (step, step[::-1])]
        rows.append((face_name(at), [lies[step[::-1]] for step in steps]))
    return Web(rows)
