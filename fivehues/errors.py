"""The refusals: one error class for each."""


class HueError(ValueError):
    """Any refusal of the program."""


class NoName(HueError):
    """What should be a name is none."""


class Twice(HueError):
    """What may stand once alone stands twice."""


class OneWay(HueError):
    """In the round of one stands an other that is not tied back to it."""

    def __init__(self, one, other):
        HueError.__init__(self, f"{other} stands in the round of {one}, but is not another place tied to it")
        self.one = one
        self.other = other


class NotFlat(HueError):
    """A piece has not as many places and faces, together, as ties and two."""

    def __init__(self, many_places, many_ties, many_faces):
        HueError.__init__(self, f"a piece has places: {many_places}, ties: {many_ties}, faces: {many_faces}")
        self.many_places = many_places
        self.many_ties = many_ties
        self.many_faces = many_faces


class NoPlace(HueError):
    """What should be a place is none."""


class NoText(HueError):
    """What should be the text of a web is none."""


class NoHue(HueError):
    """What should be another hue is none."""


class Unread(HueError):
    """A paper is not right at a step."""

    def __init__(self, at):
        HueError.__init__(self, f"the paper is not right at step {at}")
        self.at = at


class TooMany(HueError):
    """A web has more places than are gone through."""


class NoRing(HueError):
    """What should be a ring, or make one, does not."""


class NotOne(HueError):
    """A web has not just one piece."""


class NoCorner(HueError):
    """What should tell a corner of a place does not."""


class NoTie(HueError):
    """Two places are not tied."""


class Bridge(HueError):
    """A tie has both its steps on one face."""

    def __init__(self, one, other):
        HueError.__init__(self, f"the tie of {one} and {other} has both its steps on one face")
        self.one = one
        self.other = other
