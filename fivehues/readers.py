"""The reader of papers, which trusts nothing but the web."""

from fivehues.chains import exchanged_in
from fivehues.errors import Unread


def is_hue(thing, many):
    """Whether a thing, whatever it is, is a whole number from 0 on, below many."""
    return isinstance(thing, int) and not isinstance(thing, bool) and 0 <= thing < many


def is_closed(web, hues, places, two):
    """Whether places have one of two hues each, and whoever is tied to them and has one is among them."""
    beside = [other for place in places for other in web.round_of(place) if other in hues and hues[other] in two]
    return all([hues[place] in two for place in places]) and all([other in places for other in beside])


def is_swap_right(web, hues, many, swap):
    """Whether a swap may be done where places have these hues."""
    start, other, places = swap
    if start not in hues or not is_hue(other, many) or other == hues[start]:
        return False
    if start not in places or not all([place in hues for place in places]) or places != sorted(set(places)):
        return False
    return is_closed(web, hues, places, (hues[start], other))


def is_free(web, hues, many, place, hue):
    """Whether a place has no hue yet and may get this one."""
    if place not in web.rounds or place in hues or not is_hue(hue, many):
        return False
    return hue not in [hues[other] for other in web.round_of(place) if other in hues]


def read_paper(web, paper, many=5):
    """The hues that a paper leads to, or Unread."""
    hues = {}
    for at, (place, hue, swaps) in enumerate(paper):
        for swap in swaps:
            if not is_swap_right(web, hues, many, swap):
                raise Unread(at)
            start, other, places = swap
            hues = exchanged_in(hues, places, hues[start], other)
        if not is_free(web, hues, many, place, hue):
            raise Unread(at)
        hues[place] = hue
    if len(hues) < len(web.places()):
        raise Unread(len(paper))
    return hues
