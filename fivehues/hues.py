"""Hues of a web: what is wrong with them, and which are free."""


def fault(web, hues):
    """None where hues are right for a web, else their first fault."""
    for place in web.places():
        if place not in hues:
            return ("lacking", place)
    for name in sorted(hues):
        if name not in web.rounds:
            return ("strange", name)
    for one, other in web.ties():
        if hues[one] == hues[other]:
            return ("like", one, other)
    return None


def free_hue(web, hues, place, many):
    """The least hue below many that no one tied to the place has, or None; hues may be of some places alone."""
    around = [hues[other] for other in web.round_of(place) if other in hues]
    for hue in range(many):
        if hue not in around:
            return hue
    return None
