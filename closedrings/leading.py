"""Rings led back over puts: a ring that uses a put is turned about it, so that it does without."""

from closedrings.closing import are_puts, is_put, web_with
from closedrings.errors import NoHeld, NoPut, NoRing
from closedrings.walks import is_held, is_whole_ring, ring_ties, told_ring
from closedrings.webs import lesser_first


def begun_with(ring, put):
    """A ring with a put among its ties, from the put's lesser place round to its greater one."""
    first, last = put
    at = ring.index(first)
    row = ring[at:] + ring[:at]
    if row[-1] != last:
        return row[:1] + row[:0:-1]
    return row


def can_turn(web, held, row, i):
    """Whether the row's first i places and the rest, turned about, are a ring that holds the held ties."""
    ties = web[1]
    one, other = row[i - 1], row[i]
    return (lesser_first(row[0], other) in ties and lesser_first(row[-1], one) in ties
            and lesser_first(one, other) not in held)


def turned(web, held, row):
    """The row with all behind its first i places turned about, with the least i that makes it a ring."""
    least = min([i for i in range(2, len(row) - 1) if can_turn(web, held, row, i)])
    return row[:least] + row[least:][::-1]


def led_over(web, held, put, ring):
    """The ring that led_one tells, of arguments that are right."""
    if put not in ring_ties(ring):
        return told_ring(ring)
    # The counts of a put's places are so large that there is one such i more than there are held ties.
    return told_ring(turned(web, held, begun_with(ring, put)))


def led_one(web, held, put, ring):
    """A whole ring of the web, led back from one of the web with a put."""
    if not is_held(web, held):
        raise NoHeld()
    if not is_put(web, len(held), put):
        raise NoPut()
    if not is_whole_ring(web_with(web, (put,)), held, ring):
        raise NoRing()
    return led_over(web, held, put, ring)


def led_back(web, held, puts, ring):
    """The rings on the way back from the web with all puts to the web itself, the last put first."""
    if not is_held(web, held):
        raise NoHeld()
    if not are_puts(web, len(held), puts):
        raise NoPut()
    if not is_whole_ring(web_with(web, puts), held, ring):
        raise NoRing()
    rings = [told_ring(ring)]
    for left in reversed(range(len(puts))):
        rings.append(led_over(web_with(web, puts[:left]), held, puts[left], rings[-1]))
    return tuple(rings)
