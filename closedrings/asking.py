"""A whole ring, or a paper that there is none; of many places too, where the closing has all ties."""

from closedrings.cases import RING, by_cases, row_through
from closedrings.closing import closed
from closedrings.errors import NoHeld
from closedrings.leading import led_back
from closedrings.lots import pieces
from closedrings.walks import TIES_AT_A_PLACE, is_held
from closedrings.webs import all_tied, counts_of


def ring_along(many, held):
    """A whole ring that holds the held ties, of the web of so many places with every tie."""
    taken = (many, held)
    counts = counts_of(taken)
    row = ()
    for piece in pieces(taken, ()):
        # Held ties have no ring among them, so each piece of them is a way, with an end to begin at.
        end = min([place for place in piece if counts[place] < TIES_AT_A_PLACE])
        row = row + row_through(taken, end, len(piece))
    return row


def ask(web, held):
    """A whole ring that holds the held ties, or a paper that there is none."""
    if not is_held(web, held):
        raise NoHeld()
    many = web[0]
    full, puts = closed(web, len(held))
    if full == all_tied(many):
        return (RING, led_back(web, held, puts, ring_along(many, held))[-1])
    return by_cases(web, held)
