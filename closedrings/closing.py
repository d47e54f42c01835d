"""Puts, the ties that may be put into a web by its counts, and the web that is closed by them."""

from closedrings.webs import counts_of, is_pair, untied


def are_enough(counts, more, pair):
    """Whether the counts of a pair's places together are enough for a tie between them."""
    a, b = pair
    return counts[a] + counts[b] >= len(counts) + more


def put_ahead(web, more):
    """The least put of the web, or None."""
    counts = counts_of(web)
    for pair in untied(web):
        if are_enough(counts, more, pair):
            return pair
    return None


def is_put(web, more, thing):
    """Whether a thing is a put of the web."""
    many, ties = web
    if not is_pair(many, thing) or thing in ties:
        return False
    return are_enough(counts_of(web), more, thing)


def are_puts(web, more, thing):
    """Whether a thing is puts of the web, each of them one when those before it are put in."""
    if not isinstance(thing, tuple):
        return False
    now = web
    for put in thing:
        if not is_put(now, more, put):
            return False
        now = web_with(now, (put,))
    return True


def web_with(web, puts):
    """The web with puts put in."""
    many, ties = web
    return (many, tuple(sorted([*ties, *puts])))


def closed(web, more):
    """The web with puts, each time the least one, till there is none, and these puts."""
    now = web
    puts = []
    put = put_ahead(now, more)
    while put is not None:
        puts.append(put)
        now = web_with(now, (put,))
        put = put_ahead(now, more)
    return (now, tuple(puts))
