"""Four hues, where exchanges within a told number of steps find them.

What looks for swaps tells (swaps, steps): the swaps that stayed, or None where none were found, and how many
exchanges were done. An exchange that is not needed is undone by going on with the hues as they were ahead of it.
"""

from fivehues.hues import free_hue
from fivehues.papers import come_back, swap_of, swapped
from fivehues.sixhues import order

FOUR = 4


def tries(web, hues, place):
    """All (start, other) that may be exchanged for a held place, in sorted order."""
    starts = [start for start in sorted(web.round_of(place)) if start in hues]
    return [(start, other) for start in starts for other in range(FOUR) if other != hues[start]]


def by_one(web, hues, place, most):
    """The first try by itself that leaves a hue free for the place."""
    steps = 0
    for start, other in tries(web, hues, place):
        if steps == most:
            break
        steps += 1
        swap = swap_of(web, hues, start, other)
        if free_hue(web, swapped(hues, swap), place, FOUR) is not None:
            return ([swap], steps)
    return (None, steps)


def by_two(web, hues, place, most):
    """The first try with a second one behind it that leaves a hue free for the place."""
    steps = 0
    for start, other in tries(web, hues, place):
        if steps == most:
            break
        first = swap_of(web, hues, start, other)
        second, more = by_one(web, swapped(hues, first), place, most - steps - 1)
        steps += 1 + more
        if second is not None:
            return ([first] + second, steps)
    return (None, steps)


def four_swaps(web, hues, place, most):
    """The swaps, two at most, behind which one of four hues is free for a place that comes back."""
    if free_hue(web, hues, place, FOUR) is not None:
        return ([], 0)
    swaps, steps = by_one(web, hues, place, most)
    if swaps is not None:
        return (swaps, steps)
    swaps, more = by_two(web, hues, place, most - steps)
    return (swaps, steps + more)


def four_paper(web, most):
    """A paper for four hues, or None, and how many exchanges were done, at most so many."""
    paper = []
    hues = {}
    steps = 0
    for place in order(web)[::-1]:
        swaps, more = four_swaps(web, hues, place, most - steps)
        steps += more
        if swaps is None:
            return (None, steps)
        step, hues = come_back(web, hues, place, swaps, FOUR)
        paper.append(step)
    return (paper, steps)
