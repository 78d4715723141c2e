"""The five hues of a web."""

from fivehues.papers import FIVE, five_paper
from fivehues.readers import read_paper


def five_hues(web):
    """Right hues, all below five."""
    return read_paper(web, five_paper(web), FIVE)
