"""Chains of two hues, and the two exchanged in them; hues may be of some places alone."""

from fivehues.errors import NoHue, NoPlace
from fivehues.faces import piece_from


def chain(web, hues, start, other):
    """All places that are come to from start by ties over places of its hue and the other one, rising."""
    if start not in hues or start not in web.rounds:
        raise NoPlace("the chain of what is no place with a hue")
    if other == hues[start] or other < 0:
        raise NoHue("the other hue of a chain is the place's own, or below 0")
    two = (hues[start], other)
    within = [place for place in web.places() if place in hues and hues[place] in two]
    rounds = {place: [beside for beside in web.round_of(place) if beside in within] for place in within}
    return piece_from(rounds, start)


def exchanged_in(hues, places, one, other):
    """All hues, with one and other exchanged in places that have them."""
    told = dict(hues)
    for place in places:
        told[place] = other if hues[place] == one else one
    return told


def exchanged(web, hues, start, other):
    """All hues, with the hue of start and the other one exchanged in their chain."""
    places = chain(web, hues, start, other)
    return exchanged_in(hues, places, hues[start], other)
