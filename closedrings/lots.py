"""Lots of places, and the pieces that a web falls into without them."""

from closedrings.kinds import is_rising
from closedrings.walks import are_unlike_places
from closedrings.webs import beside


def is_lot(web, thing):
    """Whether a thing is a lot of the web."""
    return are_unlike_places(web[0], thing) and len(thing) > 0 and is_rising(thing)


def piece_of(web, lot, first):
    """The places that are joined to the first one by ties that do not touch the lot, rising."""
    found = {first: True}
    ahead = [first]
    while ahead:
        last = ahead.pop()
        for place in beside(web, last):
            if place not in lot and place not in found:
                found[place] = True
                ahead.append(place)
    return tuple(sorted(found))


def pieces(web, lot):
    """The pieces that the web falls into without the places of a lot, by their first places."""
    told = []
    seen = set()
    for place in range(web[0]):
        if place in lot or place in seen:
            continue
        piece = piece_of(web, lot, place)
        told.append(piece)
        for joined in piece:
            seen.add(joined)
    return tuple(told)


def is_bar(web, thing):
    """Whether a thing is a lot that leaves more pieces than it has places."""
    return is_lot(web, thing) and len(pieces(web, thing)) > len(thing)
