"""The order of a web, and its six hues."""

from fivehues.hues import free_hue

SIX = 6


def order(web):
    """All places, each time the one that is tied to the fewest of those left, of several the least."""
    many = {place: len(web.round_of(place)) for place in web.places()}
    taken = []
    while many:
        least = min([(many[place], place) for place in many])[1]
        taken.append(least)
        del many[least]
        for other in web.round_of(least):
            if other in many:
                many[other] -= 1
    return taken


def six_hues(web):
    """Right hues, all below six."""
    hues = {}
    for place in order(web)[::-1]:
        # Of a flat web five at most are back that are tied to the place: one of six is free.
        hues[place] = free_hue(web, hues, place, SIX)
    return hues
