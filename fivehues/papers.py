"""Papers: how the hues of a web came about, step by step."""

from fivehues.chains import chain, exchanged_in
from fivehues.hues import free_hue
from fivehues.sixhues import order

FIVE = 5


def swap_of(web, hues, start, other):
    """The exchange of two hues in a chain, as papers tell it."""
    return (start, other, chain(web, hues, start, other))


def swapped(hues, swap):
    """All hues behind a swap."""
    start, other, places = swap
    return exchanged_in(hues, places, hues[start], other)


def come_back(web, hues, place, swaps, many):
    """The step by which a place comes back behind swaps that leave it a hue below many, and all hues then."""
    for swap in swaps:
        hues = swapped(hues, swap)
    behind = dict(hues)
    behind[place] = free_hue(web, hues, place, many)
    return ((place, behind[place], swaps), behind)


def five_swaps(web, hues, place):
    """The swaps, one at most, behind which one of five hues is free for a place that comes back."""
    if free_hue(web, hues, place, FIVE) is not None:
        return []
    first, second, third, fourth = [other for other in web.round_of(place) if other in hues][:4]
    if third not in chain(web, hues, first, hues[third]):
        return [swap_of(web, hues, first, hues[third])]
    # A chain from the first to the third and the place itself go round the second, as the web is flat:
    # so no chain of two other hues leads from it to the fourth.
    return [swap_of(web, hues, second, hues[fourth])]


def five_paper(web):
    """The paper that goes with the five hues."""
    paper = []
    hues = {}
    for place in order(web)[::-1]:
        step, hues = come_back(web, hues, place, five_swaps(web, hues, place), FIVE)
        paper.append(step)
    return paper
