"""Hues from lists, or a choice that tells why there are none, and the reader of choices.

Places that are chosen with hues stand in a dict, chosen, which is never changed while it is looked at.
"""

from fivehues.errors import NoPlace, TooMany
from fivehues.faces import pieces

MOST_PLACES = 12
THREE = (0, 1, 2)
TIED = "tied"


def chosen_too(chosen, place, hue):
    """Those that are chosen, and a place with a hue too."""
    told = dict(chosen)
    told[place] = hue
    return told


def tied_with(web, chosen, place, hue):
    """One that is tied to the place and chosen with this hue, or None."""
    for other in web.round_of(place):
        if other in chosen and chosen[other] == hue:
            return other
    return None


def many_free(web, lists, chosen, place):
    """How many hues of the place's list no one tied to it is chosen with."""
    return len([hue for hue in lists[place] if tied_with(web, chosen, place, hue) is None])


def leans_on(choice, place):
    """Whether a tie to the place stands somewhere in a choice."""
    whys = [why for hue, why in choice[1]]
    return any([leans_on(why, place) if isinstance(why[1], list) else why[1] == place for why in whys])


def looked_for(web, lists, piece, chosen):
    """("hues", hues) of a piece, those chosen among them; or ("choice", choice) that is read where they are chosen."""
    left = [(many_free(web, lists, chosen, place), place) for place in piece if place not in chosen]
    if not left:
        return ("hues", chosen)
    place = min(left)[1]
    ways = []
    for hue in lists[place]:
        other = tied_with(web, chosen, place, hue)
        if other is not None:
            ways.append((hue, (TIED, other)))
            continue
        kind, told = looked_for(web, lists, piece, chosen_too(chosen, place, hue))
        # A choice that does without this place is read without it, too; so few choices come.
        if kind == "hues" or not leans_on(told, place):
            return (kind, told)
        ways.append((hue, told))
    return ("choice", (place, ways))


def from_lists(web, lists):
    """("hues", hues), right ones, each of its place's list; or ("choice", choice) where there are none such."""
    if set(lists) != set(web.places()):
        raise NoPlace("a key is no place, or a place is no key")
    if len(lists) > MOST_PLACES:
        raise TooMany("choices are gone through of twelve places at most")
    hues = {}
    for piece in pieces(web):
        kind, told = looked_for(web, lists, piece, {})
        if kind == "choice":
            return (kind, told)
        hues.update(told)
    return ("hues", hues)


def three_hues(web):
    """Hues, or a choice, from the lists 0, 1, 2 of each place."""
    return from_lists(web, {place: list(THREE) for place in web.places()})


def is_pair(thing):
    """Whether a thing, whatever it is, is a tuple of two."""
    return isinstance(thing, tuple) and len(thing) == 2


def is_why_read(web, lists, chosen, place, hue, why):
    """Whether it is right that the place does not get this hue where some places are chosen."""
    if not is_pair(why):
        return False
    # A place may be called tied, too, so what stands second tells a choice from a tie.
    if isinstance(why[1], list):
        return is_choice_read(web, lists, chosen_too(chosen, place, hue), why)
    word, other = why
    return word == TIED and web.is_tied(place, other) and other in chosen and chosen[other] == hue


def is_choice_read(web, lists, chosen, choice):
    """Whether a choice is read where some places are chosen."""
    place, ways = choice
    if place not in web.places() or place in chosen or not all([is_pair(way) for way in ways]):
        return False
    if [hue for hue, why in ways] != lists[place]:
        return False
    return all([is_why_read(web, lists, chosen, place, hue, why) for hue, why in ways])


def is_read(web, lists, choice):
    """Whether a choice is read where no place is chosen: then there are no hues from these lists."""
    return is_pair(choice) and isinstance(choice[1], list) and is_choice_read(web, lists, {}, choice)
