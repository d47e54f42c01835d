"""Rows of counts and their faults, and the webs that just miss what counting makes certain."""

from closedrings.errors import NoNumber, NoRow
from closedrings.kinds import is_int
from closedrings.webs import FEWEST_PLACES, MOST_PLACES, all_tied, counts_of, is_many


def row_of(web):
    """The counts of a web, the least one first."""
    return tuple(sorted(counts_of(web)))


def is_row(thing):
    """Whether a thing is a row."""
    if not isinstance(thing, tuple) or not FEWEST_PLACES <= len(thing) <= MOST_PLACES:
        return False
    if not all([is_int(number) and 0 <= number < len(thing) for number in thing]):
        return False
    return list(thing) == sorted(thing)


def has_fault(row, i):
    """Whether i, 1 or more and less than half of the row's length, is a fault of the row."""
    size = len(row)
    # The document counts a row's ints from 1 on.
    return row[i - 1] <= i and row[size - i - 1] < size - i


def row_fault(thing):
    """The least fault of a row, or None."""
    if not is_row(thing):
        raise NoRow()
    for i in range(1, (len(thing) + 1) // 2):
        if has_fault(thing, i):
            return i
    return None


def tight_web(many, i):
    """The web with the least fault i whose row no row with that fault goes above."""
    if not is_many(many) or not 1 <= i or not 2 * i < many:
        raise NoNumber()
    # In a tie the lesser place tells: it is one of the first i, or both places are of the rest.
    return (many, tuple([(a, b) for a, b in all_tied(many)[1] if a < i or a >= 2 * i]))


def even_web(many):
    """The web with each place of the first half tied to each of the second half."""
    if not is_many(many) or many % 2 != 0:
        raise NoNumber()
    half = many // 2
    return (many, tuple([(a, b) for a in range(half) for b in range(half, many)]))
