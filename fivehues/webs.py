"""Names and webs."""

from fivehues.errors import NoName, NoPlace, NotFlat, OneWay, Twice
from fivehues.faces import faces_of, pieces_of

MOST_LETTERS = 8


def is_name(thing):
    """Whether a thing, whatever it is, is a text of one to eight small letters."""
    if not isinstance(thing, str):
        return False
    return 1 <= len(thing) <= MOST_LETTERS and all(["a" <= sign <= "z" for sign in thing])


def refuse_no_names(rows):
    """Refuse rows in which something is no name."""
    for place, around in rows:
        for thing in [place] + around:
            if not is_name(thing):
                raise NoName("a place, or one in a round, is no name")


def refuse_twice(rows):
    """Refuse rows of which two have one place, or one has a name twice in its round."""
    places = [place for place, around in rows]
    for names in [places] + [around for place, around in rows]:
        if len(set(names)) < len(names):
            raise Twice("a place has two rows, or a name stands twice in a round")


def refuse_one_way(rows):
    """Refuse rows in which a tie is not told from both of two unlike places."""
    rounds = dict(rows)
    for one, around in rows:
        for other in around:
            if other == one or one not in rounds.get(other, []):
                raise OneWay(one, other)


def refuse_not_flat(rounds):
    """Refuse rounds of which a piece has too few faces to be flat."""
    found = faces_of(rounds)
    for piece in pieces_of(rounds):
        many_places = len(piece)
        many_ties = sum([len(rounds[place]) for place in piece]) // 2
        many_faces = len([face for face in found if face[0] in piece])
        if many_places + many_faces != many_ties + 2:
            raise NotFlat(many_places, many_ties, many_faces)


def from_least(around):
    """A round from its least place on, as a tuple that nobody can change."""
    at = around.index(min(around)) if around else 0
    return tuple(around[at:] + around[:at])


class Web:
    """A flat web of places, which never changes."""

    def __init__(self, rows):
        refuse_no_names(rows)
        refuse_twice(rows)
        refuse_one_way(rows)
        # Sorted, so that webs with the same rounds are the same, however their rows stood.
        rounds = {place: from_least(around) for place, around in sorted(rows)}
        refuse_not_flat(rounds)
        self.rounds = rounds

    def places(self):
        """All places, rising."""
        return list(self.rounds)

    def round_of(self, place):
        """Those that stand round a place, to the left hand, from the least on."""
        if place not in self.rounds:
            raise NoPlace("the round of what is no place")
        return list(self.rounds[place])

    def ties(self):
        """All ties, rising: tuples (one, other), one the less."""
        return sorted([(one, other) for one in self.rounds for other in self.rounds[one] if one < other])

    def is_tied(self, one, other):
        """Whether two names are those of tied places."""
        return other in self.rounds.get(one, ())
