"""Ways and rings of a web, and the held ties that a ring must go along."""

from closedrings.kinds import is_rising
from closedrings.webs import is_pair, is_place, lesser_first

SHORTEST_RING = 3
MOST_HELD = 4
# A ring has just so many ties at each of its places.
TIES_AT_A_PLACE = 2


def are_unlike_places(many, thing):
    """Whether a thing is a tuple of places, none of them twice."""
    if not isinstance(thing, tuple):
        return False
    seen = set()
    for place in thing:
        if not is_place(many, place) or place in seen:
            return False
        seen.add(place)
    return True


def steps_of(row):
    """The pairs of neighbours in a row of places, each with the lesser place first."""
    return [lesser_first(a, b) for a, b in zip(row, row[1:])]


def are_all_among(ties, others):
    return all([tie in others for tie in ties])


def is_way(web, thing):
    """Whether a thing is a way of the web."""
    many, ties = web
    if not are_unlike_places(many, thing) or len(thing) == 0:
        return False
    return are_all_among(steps_of(thing), ties)


def is_ring(web, thing):
    """Whether a thing is a ring of the web."""
    many, ties = web
    if not are_unlike_places(many, thing) or len(thing) < SHORTEST_RING:
        return False
    return are_all_among(ring_ties(thing), ties)


def ring_ties(ring):
    """The ties of a ring, rising."""
    return tuple(sorted(steps_of(ring + ring[:1])))


def told_ring(ring):
    """The same ring from its least place on, towards the lesser one of the two beside that."""
    turns = [row[at:] + row[:at] for row in (ring, ring[::-1]) for at in range(len(ring))]
    # No place stands in a ring twice, so the least turn is the one that begins so.
    return min(turns, default=ring)


def is_tie(web, thing):
    many, ties = web
    # True is like 1 to Python: a pair is looked at by itself before it is looked for.
    return is_pair(many, thing) and thing in ties


def has_crowded_place(ties):
    """Whether more ties than a ring can take are at one place."""
    ends = [place for tie in ties for place in tie]
    return any([ends.count(place) > TIES_AT_A_PLACE for place in ends])


def has_ring(many, ties):
    """Whether there is a ring among ties."""
    groups = list(range(many))
    for a, b in ties:
        joined, gone = groups[a], groups[b]
        if joined == gone:
            return True
        groups = [joined if group == gone else group for group in groups]
    return False


def is_held(web, thing):
    """Whether a thing is held ties of the web."""
    if not isinstance(thing, tuple) or len(thing) > MOST_HELD:
        return False
    if not all([is_tie(web, pair) for pair in thing]) or not is_rising(thing):
        return False
    return not has_crowded_place(thing) and not has_ring(web[0], thing)


def is_whole_ring(web, held, thing):
    """Whether a thing is a ring through all places that holds the held ties."""
    if not is_ring(web, thing) or len(thing) != web[0]:
        return False
    return are_all_among(held, ring_ties(thing))
