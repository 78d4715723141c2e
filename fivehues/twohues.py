"""Two hues of a web, or a ring of an odd number of places that tells why there are none."""

from fivehues.faces import pieces
from fivehues.trees import ring_in, tree, way_to


def two_hues(web):
    """("hues", hues), right ones of 0 and 1; or ("ring", ring) with an odd number of places."""
    hues = {}
    for piece in pieces(web):
        parents = tree(web, piece[0])
        for place in piece:
            hues[place] = (len(way_to(parents, place)) - 1) % 2
        for one, other in web.ties():
            # Places of like hues that are tied stand in one layer: their ways are of one length, so the ring is odd.
            if one in parents and hues[one] == hues[other]:
                return ("ring", ring_in(parents, one, other))
    return ("hues", hues)
