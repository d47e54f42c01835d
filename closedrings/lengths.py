"""Rings of each length, where a web has a whole ring and more ties than a quarter of the square of its places."""

from closedrings.errors import NoRing, TooFew
from closedrings.walks import SHORTEST_RING, is_ring, is_whole_ring, told_ring
from closedrings.webs import counts_of


def begun_richly(web, ring):
    """The ring begun so that the counts of its first and its last place together are the largest."""
    counts = counts_of(web)
    turns = [ring[at:] + ring[:at] for at in range(len(ring))]
    return max(turns, key=lambda row: counts[row[0]] + counts[row[-1]])


def rows_of_length(row, length):
    """Rows of so many places, each of them a ring if one tie of the row's first place and one of its last are there."""
    between = [(row[0], *row[at:at + length - 2], row[-1]) for at in range(1, len(row) - length + 2)]
    turned = [row[:at] + row[at - length:][::-1] for at in range(2, length - 1)]
    return between + turned


def ring_of_length(web, row, length):
    # Each place between the first and the last one needs the tie to the first in just one of the rows, and the tie to
    # the last in just one. The two have more such ties together than there are rows: in some row both are there.
    return told_ring([ring for ring in rows_of_length(row, length) if is_ring(web, ring)][0])


def rings_of_lengths(web, ring):
    """A ring of 3 places, of 4, and so on up to all places, found by a whole ring."""
    many, ties = web
    if not is_whole_ring(web, (), ring):
        raise NoRing()
    if 4 * len(ties) <= many * many:
        raise TooFew()
    # Some neighbours of the ring have counts that together are above many: their mean over the ring is.
    row = begun_richly(web, ring)
    return tuple([ring_of_length(web, row, length) for length in range(SHORTEST_RING, many + 1)])
