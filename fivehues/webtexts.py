"""Webs as texts, written and read."""

from fivehues.errors import NoText
from fivehues.webs import Web, is_name

NO_PLACES = "-"


def row_text(place, around):
    """The text of a place and its round."""
    return " ".join([f"{place}:"] + around)


def web_text(web):
    """The text of a web."""
    rows = [row_text(place, web.round_of(place)) for place in web.places()]
    return "; ".join(rows) if rows else NO_PLACES


def read_row(text):
    """The place and the round of a text, or NoText."""
    head, *around = text.split(" ")
    place = head[:-1]
    if not head.endswith(":") or not all([is_name(word) for word in [place] + around]):
        raise NoText("a place with its round is not written as it should be")
    return (place, around)


def read_web(text):
    """The web of a text; refused as rows are, and with NoText where it is no such text."""
    if not isinstance(text, str):
        raise NoText("what is no text at all")
    if text == NO_PLACES:
        return Web([])
    return Web([read_row(part) for part in text.split("; ")])
