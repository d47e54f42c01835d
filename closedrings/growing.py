"""Rich webs, and how a way of one grows to a ring through all places."""

from closedrings.closing import are_enough
from closedrings.errors import NotRich, NoWay
from closedrings.leading import turned
from closedrings.walks import is_way
from closedrings.webs import beside, counts_of, lesser_first, untied

LONGER = "longer"
CLOSED = "closed"
OPENED = "opened"


def poor_pair(web):
    """The least pair without a tie whose counts together are less than the places, or None."""
    counts = counts_of(web)
    for pair in untied(web):
        if not are_enough(counts, 0, pair):
            return pair
    return None


def beside_off(web, row, place):
    """The places that one is tied to and that are not on a row, rising."""
    return [other for other in beside(web, place) if other not in row]


def longer_way(web, way):
    """The way with one place more at one of its ends, or None."""
    behind = beside_off(web, way, way[-1])
    if behind:
        return (*way, behind[0])
    ahead = beside_off(web, way, way[0])
    if ahead:
        return (ahead[0], *way)
    return None


def closed_way(web, way):
    """The ring through the places of a way whose ends are tied to its own places alone."""
    if lesser_first(way[0], way[-1]) in web[1]:
        return way
    # The ends have no tie, and in a rich web their counts are enough for a turn.
    return turned(web, (), way)


def opened_ring(web, ring):
    """The way that comes to a ring from the least place that is off it and beside it, and goes round it."""
    first = min([other for place in ring for other in beside_off(web, ring, place)])
    joint = min([place for place in beside(web, first) if place in ring])
    at = ring.index(joint)
    return (first, *ring[at:], *ring[:at])


def step_of_way(web, way):
    way_on = longer_way(web, way)
    if way_on is not None:
        return (LONGER, way_on)
    return (CLOSED, closed_way(web, way))


def next_step(web, step):
    word, row = step
    if word == CLOSED:
        return (OPENED, opened_ring(web, row))
    return step_of_way(web, row)


def is_last(web, step):
    word, row = step
    return word == CLOSED and len(row) == web[0]


def grown(web, way):
    """The steps by which a way of a rich web grows to a whole ring."""
    if not is_way(web, way):
        raise NoWay()
    poor = poor_pair(web)
    if poor is not None:
        raise NotRich(poor[0], poor[1])
    steps = [step_of_way(web, way)]
    while not is_last(web, steps[-1]):
        steps.append(next_step(web, steps[-1]))
    return tuple(steps)
