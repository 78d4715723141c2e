"""Hues of which some are told beforehand."""

from fivehues.choices import from_lists
from fivehues.errors import NoPlace


def completed(web, told, many):
    """Hues, or a choice, where some places have the hues told of them, and the others hues below many."""
    for name in told:
        if name not in web.rounds:
            raise NoPlace("a hue is told of what is no place")
    return from_lists(web, {place: [told[place]] if place in told else list(range(many)) for place in web.places()})
