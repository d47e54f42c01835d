"""A whole ring, or a paper that there is none, by going through the cases of a web of few places."""

from closedrings.errors import NoHeld, TooGreat
from closedrings.lots import pieces
from closedrings.papers import FEW, SHORT, THREE, TIE
from closedrings.walks import TIES_AT_A_PLACE, is_held, told_ring
from closedrings.webs import beside, counts_of, with_tie, without_tie

MOST_FOR_CASES = 8
RING = "ring"
NONE = "none"


def row_through(taken, first, size):
    """The row of so many places from the first one on along taken ties, of which no three are at one place."""
    row = [first]
    while len(row) < size:
        row.append([place for place in beside(taken, row[-1]) if place not in row][0])
    return tuple(row)


def ring_among(taken):
    """A ring among the taken ties, of which no three are at one place, or None."""
    counts = counts_of(taken)
    for piece in pieces(taken, ()):
        if all([counts[place] == TIES_AT_A_PLACE for place in piece]):
            return row_through(taken, piece[0], len(piece))
    return None


def crowd_paper(left, taken):
    """A paper about a place with few ties left or with three taken, or None."""
    for place, count in enumerate(counts_of(left)):
        if count < TIES_AT_A_PLACE:
            return (FEW, place)
    for place, count in enumerate(counts_of(taken)):
        if count > TIES_AT_A_PLACE:
            return (THREE, place)
    return None


def plain_answer(left, taken):
    """What there is to tell without another case: a ring, a paper, or None."""
    paper = crowd_paper(left, taken)
    if paper is not None:
        return (NONE, paper)
    ring = ring_among(taken)
    if ring is None:
        return None
    if len(ring) == left[0]:
        return (RING, told_ring(ring))
    return (NONE, (SHORT, ring))


def freedom(left_counts, taken_counts, tie):
    """How much a tie is left open by its places; the less, the sooner one of its two cases ends."""
    if TIES_AT_A_PLACE in [taken_counts[place] for place in tie]:
        return 0
    return min([left_counts[place] for place in tie])


def next_tie(left, taken):
    """The open tie with the least freedom."""
    left_counts, taken_counts = counts_of(left), counts_of(taken)
    # Where nothing is open and no place has few or three, the taken ties are rings: plain_answer tells it.
    return min([(freedom(left_counts, taken_counts, tie), tie) for tie in left[1] if tie not in taken[1]])[1]


def answer(left, taken):
    """The answer where the ties of taken are taken and those of left are not dropped."""
    plain = plain_answer(left, taken)
    if plain is not None:
        return plain
    tie = next_tie(left, taken)
    a, b = tie
    word, one = answer(left, with_tie(taken, a, b))
    if word == RING:
        return (RING, one)
    word, other = answer(without_tie(left, a, b), taken)
    if word == RING:
        return (RING, other)
    return (NONE, (TIE, tie, one, other))


def by_cases(web, held):
    """A whole ring that holds the held ties, or a paper that there is none, of at most 8 places."""
    if not is_held(web, held):
        raise NoHeld()
    if web[0] > MOST_FOR_CASES:
        raise TooGreat(MOST_FOR_CASES)
    return answer(web, (web[0], held))
