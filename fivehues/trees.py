"""Trees of a web, and the rings that ties make with them."""

from fivehues.errors import NoPlace, NoRing


def tree(web, root):
    """A dict from each place of the root's piece to its parent; the root's is None."""
    if root not in web.rounds:
        raise NoPlace("the tree of what is no place")
    parents = {root: None}
    layer = [root]
    while layer:
        found = []
        # In sorted order, so that whoever is tied to several of a layer gets the least one as its parent.
        for place in sorted(layer):
            for other in web.round_of(place):
                if other not in parents:
                    parents[other] = place
                    found.append(other)
        layer = found
    return parents


def way_to(parents, place):
    """The places from the root of a tree to a place."""
    way = []
    while place is not None:
        way.append(place)
        place = parents[place]
    return way[::-1]


def makes_ring(web, parents, one, other):
    """Whether one and other are tied in the piece of a tree, and neither is the other's parent."""
    if one not in parents or not web.is_tied(one, other):
        return False
    return parents[one] != other and parents[other] != one


def ring_in(parents, one, other):
    """The ring that a tie makes with a tree."""
    down = way_to(parents, one)
    beside = way_to(parents, other)
    # Ways that part never meet again, so what is on both is the beginning of each.
    shared = len([place for place in down if place in beside])
    return down[shared - 1:] + beside[shared:][::-1]


def ring_of(web, root, one, other):
    """The ring that the tie of one and other makes with the tree of a root."""
    parents = tree(web, root)
    if one not in web.rounds or other not in web.rounds:
        raise NoPlace("the ring of what is no place")
    if not makes_ring(web, parents, one, other):
        raise NoRing("two places are not tied in the root's piece, or are a place and its parent")
    return ring_in(parents, one, other)
