"""Papers that no whole ring of a web holds the held ties, and their checker.

While a paper is read two webs are kept: the web without the dropped ties, and the taken ties with all places.
"""

from closedrings.errors import NoHeld
from closedrings.lots import is_bar
from closedrings.walks import TIES_AT_A_PLACE, is_held, is_ring, is_tie
from closedrings.webs import counts_of, is_place, with_tie, without_tie

FEW = "few"
THREE = "three"
SHORT = "short"
LOT = "lot"
TIE = "tie"


def is_of_form(word, size, thing):
    """Whether a thing is a tuple of so many that begins with a word."""
    return isinstance(thing, tuple) and len(thing) == size and thing[0] == word


def is_open(left, taken, thing):
    """Whether a thing is a tie that is neither taken nor dropped."""
    return is_tie(left, thing) and thing not in taken[1]


def has_few(left, thing):
    """Whether a thing is a place with fewer ties than a ring needs that are not dropped."""
    return is_place(left[0], thing) and counts_of(left)[thing] < TIES_AT_A_PLACE


def has_three(taken, thing):
    """Whether a thing is a place with more taken ties than a ring has."""
    return is_place(taken[0], thing) and counts_of(taken)[thing] > TIES_AT_A_PLACE


def is_short(taken, thing):
    """Whether a thing is a ring of taken ties that does not go through all places."""
    return is_ring(taken, thing) and len(thing) < taken[0]


def is_plain_paper(left, taken, thing):
    """Whether a thing is a paper of one of the four forms without another paper in it, and right."""
    if is_of_form(FEW, 2, thing):
        return has_few(left, thing[1])
    if is_of_form(THREE, 2, thing):
        return has_three(taken, thing[1])
    if is_of_form(SHORT, 2, thing):
        return is_short(taken, thing[1])
    if is_of_form(LOT, 2, thing):
        return is_bar(left, thing[1])
    return False


def lets_by(web, held, thing):
    """Whether a thing is a right paper that no whole ring of the web holds the held ties."""
    if not is_held(web, held):
        raise NoHeld()
    # A list of what is still to be read, not calls within calls: papers may be nested deeply.
    ahead = [(web, (web[0], held), thing)]
    while ahead:
        left, taken, paper = ahead.pop()
        if is_of_form(TIE, 4, paper) and is_open(left, taken, paper[1]):
            a, b = paper[1]
            ahead.append((without_tie(left, a, b), taken, paper[3]))
            ahead.append((left, with_tie(taken, a, b), paper[2]))
        elif not is_plain_paper(left, taken, paper):
            return False
    return True
