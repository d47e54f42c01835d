"""Webs: tuples (many, ties) of a number of places and the rising ties between them."""

from closedrings.errors import NoTie, NoWeb
from closedrings.kinds import is_int, is_list_or_tuple

FEWEST_PLACES = 3
MOST_PLACES = 20


def is_many(thing):
    return is_int(thing) and FEWEST_PLACES <= thing <= MOST_PLACES


def is_place(many, thing):
    return is_int(thing) and 0 <= thing < many


def are_two_places(many, a, b):
    return is_place(many, a) and is_place(many, b) and a != b


def lesser_first(a, b):
    return (min(a, b), max(a, b))


def is_pair(many, thing):
    """Whether a thing is a tuple of two places, the lesser one first."""
    if not isinstance(thing, tuple) or len(thing) != 2:
        return False
    a, b = thing
    return are_two_places(many, a, b) and a < b


def pair_of(many, thing):
    """The pair that a list or tuple of two unlike places stands for; NoWeb for anything else."""
    if not is_list_or_tuple(thing) or len(thing) != 2:
        raise NoWeb()
    a, b = thing
    if not are_two_places(many, a, b):
        raise NoWeb()
    return lesser_first(a, b)


def made_web(many, ties):
    """The web of so many places with these ties, handed in in any order."""
    if not is_many(many) or not is_list_or_tuple(ties):
        raise NoWeb()
    made = set()
    for thing in ties:
        pair = pair_of(many, thing)
        if pair in made:
            raise NoWeb()
        made.add(pair)
    return (many, tuple(sorted(made)))


def counts_of(web):
    """How many ties each place has, by places."""
    many, ties = web
    counts = [0] * many
    for a, b in ties:
        counts[a] += 1
        counts[b] += 1
    return tuple(counts)


def beside(web, place):
    """The places that one is tied to, rising."""
    ties = web[1]
    below = [a for a, b in ties if b == place]
    above = [b for a, b in ties if a == place]
    # The ties are rising, and what is below the place comes ahead of what is above it.
    return tuple(below + above)


def all_tied(many):
    """The web of so many places with every tie."""
    return (many, tuple([(a, b) for a in range(many) for b in range(a + 1, many)]))


def untied(web):
    """The pairs of places without a tie, rising."""
    many, ties = web
    return sorted(set(all_tied(many)[1]) - set(ties))


def tie_of(many, a, b):
    """The pair of two unlike places, handed in in either order; NoTie for anything else."""
    if not are_two_places(many, a, b):
        raise NoTie()
    return lesser_first(a, b)


def with_tie(web, a, b):
    """The web with one tie more."""
    many, ties = web
    tie = tie_of(many, a, b)
    if tie in ties:
        raise NoTie()
    return (many, tuple(sorted([*ties, tie])))


def without_tie(web, a, b):
    """The web with one tie less."""
    many, ties = web
    gone = tie_of(many, a, b)
    if gone not in ties:
        raise NoTie()
    return (many, tuple([tie for tie in ties if tie != gone]))
