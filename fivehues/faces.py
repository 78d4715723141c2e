"""Faces and pieces, of a web or of rounds by themselves.

A web is refused by the count of its faces while it is made, so the rounds,
a dict from each place to those round it, are looked at without a web here.
"""


def steps_behind(rounds):
    """Each step, with the step that comes behind it."""
    behind = {}
    for place in rounds:
        around = rounds[place]
        for at, to in enumerate(around):
            # Ahead of the first one stands the last one, at -1: so the round is closed.
            behind[(around[at - 1], place)] = (place, to)
    return behind


def faces_of(rounds):
    """The faces of rounds, sorted."""
    behind = steps_behind(rounds)
    found = [[place] for place in rounds if not rounds[place]]
    gone = {}
    # Steps are begun with in sorted order, so each face is begun with its least one.
    for first in sorted(behind):
        face = []
        step = first
        while step not in gone:
            gone[step] = True
            face.append(step[0])
            step = behind[step]
        if face:
            found.append(face)
    return sorted(found)


def piece_from(rounds, start):
    """All places that are come to from start by ties, itself too, rising."""
    reached = {start: True}
    waiting = [start]
    while waiting:
        place = waiting.pop()
        for other in rounds[place]:
            if other not in reached:
                reached[other] = True
                waiting.append(other)
    return sorted(reached)


def pieces_of(rounds):
    """The pieces of rounds, sorted."""
    found = []
    reached = {}
    for start in sorted(rounds):
        if start not in reached:
            piece = piece_from(rounds, start)
            found.append(piece)
            for place in piece:
                reached[place] = True
    return found


def faces(web):
    """The faces of a web: a sorted list of lists of places."""
    return faces_of(web.rounds)


def pieces(web):
    """The pieces of a web: a sorted list of rising lists of places."""
    return pieces_of(web.rounds)
