"""The lots of a ring, and webs parted by rings."""

from fivehues.errors import NoRing, NotOne
from fivehues.faces import piece_from, pieces
from fivehues.trees import makes_ring, ring_in, tree

FEWEST_IN_RING = 3


def is_ring(web, names):
    """Whether names are those of three or more unlike places, each tied to the next one, the last to the first."""
    if len(names) < FEWEST_IN_RING or len(set(names)) < len(names):
        return False
    return all([web.is_tied(one, other) for one, other in zip(names, names[1:] + names[:1])])


def between(around, first, last):
    """Those that stand in a round behind the first one and ahead of the last one."""
    at = around.index(first)
    turned = around[at + 1:] + around[:at]
    return turned[:turned.index(last)]


def lot(web, ring, at_hand):
    """Those at hand that are no places of the ring, with all that are come to from them without one; rising."""
    off = [place for place in web.places() if place not in ring]
    rounds = {place: [other for other in web.round_of(place) if other not in ring] for place in off}
    return sorted({place for start in at_hand if start in rounds for place in piece_from(rounds, start)})


def lots(web, ring):
    """The lots at the left hand and at the right hand of a ring."""
    if not is_ring(web, ring):
        raise NoRing("what is no ring of the web")
    left = []
    right = []
    for at, place in enumerate(ring):
        around = web.round_of(place)
        # Ahead of the first one stands the last one, at -1, behind the last one the first.
        before = ring[at - 1]
        behind = (ring[1:] + ring[:1])[at]
        left.extend(between(around, behind, before))
        right.extend(between(around, before, behind))
    return (lot(web, ring, left), lot(web, ring, right))


def parting(web, root):
    """(ring, left, right), that ring of the root's tree whose greater lot has the fewest places; None without one."""
    parents = tree(web, root)
    if len(pieces(web)) > 1:
        raise NotOne("a web of several pieces is parted")
    found = []
    for one, other in web.ties():
        if makes_ring(web, parents, one, other):
            ring = ring_in(parents, one, other)
            left, right = lots(web, ring)
            found.append((max(len(left), len(right)), len(ring), (one, other), ring, left, right))
    return min(found)[3:] if found else None
