"""Ways through all places: rings of the web with a hub, a place that is tied to all others."""

from closedrings.asking import ask
from closedrings.cases import NONE
from closedrings.errors import TooGreat

MOST_FOR_A_HUB = 19
WAY = "way"


def hubbed(web):
    """The web with one place more, the last one, tied to all others."""
    many, ties = web
    if many > MOST_FOR_A_HUB:
        raise TooGreat(MOST_FOR_A_HUB)
    return (many + 1, tuple(sorted([*ties, *[(place, many) for place in range(many)]])))


def way_through(web):
    """A way through all places, or a paper for the hubbed web that there is none."""
    word, told = ask(hubbed(web), ())
    if word == NONE:
        return (NONE, told)
    hub = told.index(web[0])
    return (WAY, told[hub + 1:] + told[:hub])
