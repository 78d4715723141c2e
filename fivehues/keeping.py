"""Hues of a web, kept right while places and ties come and go."""

from fivehues.chains import chain, exchanged
from fivehues.errors import NoCorner, NoName, NoPlace, NoTie, Twice
from fivehues.fives import five_hues
from fivehues.hues import free_hue
from fivehues.papers import FIVE
from fivehues.webs import Web, is_name


def rounds_of(web):
    """The rounds of a web, in a dict and lists of their own."""
    return {place: web.round_of(place) for place in web.places()}


def with_place(web, place):
    """The web with one place more, tied to nobody."""
    rounds = rounds_of(web)
    rounds[place] = []
    return Web(list(rounds.items()))


def without_place(web, gone):
    """The web without a place and its ties."""
    rounds = rounds_of(web)
    del rounds[gone]
    return Web([(place, [other for other in around if other != gone]) for place, around in rounds.items()])


def is_corner(around, corner):
    """Whether a thing, whatever it is, tells a corner of the place that has this round."""
    return corner in around if around else corner is None


def put_behind(around, corner, new):
    """A round with a new one right behind that which tells the corner."""
    at = around.index(corner) + 1 if around else 0
    return around[:at] + [new] + around[at:]


def with_tie(web, one, behind, other, after):
    """The web with a tie between two places at corners."""
    rounds = rounds_of(web)
    rounds[one] = put_behind(rounds[one], behind, other)
    rounds[other] = put_behind(rounds[other], after, one)
    return Web(list(rounds.items()))


def without_tie(web, one, other):
    """The web without the tie of two places."""
    rounds = rounds_of(web)
    rounds[one].remove(other)
    rounds[other].remove(one)
    return Web(list(rounds.items()))


def parted_hues(ahead, web, hues, one, other):
    """Right hues for a web with a tie between two places of like hues, made of those that were right ahead of it."""
    for place in (one, other):
        # The new tie stands in the web, so the hue that both have is free for neither.
        free = free_hue(web, hues, place, FIVE)
        if free is not None:
            told = dict(hues)
            told[place] = free
            return told
    for hue in range(FIVE):
        if hue != hues[one] and other not in chain(ahead, hues, one, hue):
            return exchanged(ahead, hues, one, hue)
    return five_hues(web)


class Kept:
    """A web to which deeds are done, and its hues."""

    def __init__(self, web):
        self.web = web
        self.hues = five_hues(web)

    def web_now(self):
        """The web as it is now; it stays so, whatever comes."""
        return self.web

    def hues_now(self):
        """The hues as they are now."""
        return dict(self.hues)

    def become(self, web, hues):
        """Keep another web and its hues; tell (place, old, new) of each place whose hue is another one."""
        both = [place for place in web.places() if place in self.hues]
        told = [(place, self.hues[place], hues[place]) for place in both if hues[place] != self.hues[place]]
        self.web = web
        self.hues = hues
        return told

    def refuse_no_places(self, names):
        """Refuse names of which one is no place."""
        for name in names:
            if name not in self.web.rounds:
                raise NoPlace("a deed is done with what is no place")

    def add(self, place):
        """A place comes, tied to nobody."""
        if not is_name(place):
            raise NoName("what comes as a place is no name")
        if place in self.web.rounds:
            raise Twice("a place comes that is there already")
        hues = dict(self.hues)
        hues[place] = 0
        return self.become(with_place(self.web, place), hues)

    def drop(self, place):
        """A place goes, with its ties."""
        self.refuse_no_places([place])
        hues = dict(self.hues)
        del hues[place]
        return self.become(without_place(self.web, place), hues)

    def tie(self, one, behind, other, after):
        """A tie comes between one and other, at the corners that behind and after tell."""
        self.refuse_no_places([one, other])
        if one == other or self.web.is_tied(one, other):
            raise Twice("a tie comes between two that are one place, or are tied")
        for place, corner in [(one, behind), (other, after)]:
            if not is_corner(self.web.round_of(place), corner):
                raise NoCorner("what tells no corner of its place")
        web = with_tie(self.web, one, behind, other, after)
        hues = self.hues
        if hues[one] == hues[other]:
            hues = parted_hues(self.web, web, hues, one, other)
        return self.become(web, hues)

    def untie(self, one, other):
        """A tie goes."""
        self.refuse_no_places([one, other])
        if not self.web.is_tied(one, other):
            raise NoTie("a tie goes that is not there")
        return self.become(without_tie(self.web, one, other), self.hues)
