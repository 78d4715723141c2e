"""Images of a web: mirrored and renamed."""

from fivehues.errors import NoPlace
from fivehues.webs import Web


def mirrored(web):
    """The web with each round turned about."""
    return Web([(place, web.round_of(place)[::-1]) for place in web.places()])


def renamed(web, names):
    """The web with another name for each place, told by a dict with just its places as keys."""
    if set(names) != set(web.places()):
        raise NoPlace("a key is no place, or a place is no key")
    # Each new name has a row, so Web itself refuses no names, and then one that two get.
    return Web([(names[place], [names[other] for other in web.round_of(place)]) for place in web.places()])
