"""Things to hand in where the document says "anything", and webs of all sizes to hand in with them."""

import copy
import itertools
import random

from closedrings.papers import lets_by
from closedrings.webs import all_tied, made_web


def nested(depth, kind=list):
    thing = kind()
    for step in range(depth - 1):
        thing = kind([thing])
    return thing


def nested_dict(depth):
    thing = {}
    for step in range(depth - 1):
        thing = {step: thing}
    return thing


GREAT = 10 ** 31 - 1

# None of these is an int, so none is a place or a number of places; none is a list or a tuple of pairs either.
NO_INTS = [
    True, False, None, "", "0", "1", "3", "20", "a text", "line\nend\n", [], [0], [3], [0, 1], [[0, 1]],
    (), (0,), (3,), (0, 1), ((0, 1),), {}, {0: 1}, {"a": [1]}, nested(30), nested(30, tuple), nested_dict(30),
    [0] * 99_999, (None,) * 99_999, "~ " * 50_000,
]

# Things of many kinds, none of which is a tuple of places or of pairs of places of a web; the empty tuple is left out.
STRANGE = [thing for thing in NO_INTS if thing not in ((), (0,), (3,), (0, 1), ((0, 1),))] + [
    0, 1, 3, GREAT, -GREAT, (None,), (True,), (False,), ("0",), ((),), ([],), ({},), (GREAT,), (-GREAT,), (-1,),
    (0, None), (None, 0), (0, (1,)), ((0,), 1), ((0, 1), None), ((0, 1), 2), ((0,),), ((0, 1, 2),), ([0, 1],),
    (("0", "1"),), ((0, None),), ((None, 1),), ((0, GREAT),), ((-1, 0),), ((1, 0),), ((0, 0),), (((0, 1),),),
    {0: (0, 1)}, [(0, 1)], [(0, 1), (1, 2)], [0, 1, 2], [0, 1, 2, 3], "012", ("012",), (0,) * 99_999,
    ((0, 1),) * 33_333, tuple([(0, 1), (1, 2), None] * 10_000), tuple(range(99_999)), (nested(29),),
    (nested(29, tuple),), (0, 1, nested(29, tuple)), ((0, nested(28, tuple)),),
]

# None of these is held ties of any web.
NEVER_HELD = STRANGE + [
    ((1, 0),), ((1, 2), (0, 1)), ((0, 1), (0, 1)), ((0, 1), (0, 2), (0, 3)), ((0, 1), (0, 2), (1, 2)),
    ((0, 1), (1, 2), (2, 3), (3, 4), (4, 5)), ((0, True),), ((False, 1),), ((0, 1), [2, 3]), (0, 1), "held", -1,
]

GREAT_INTS = [GREAT, -GREAT, 10 ** 20, -1, -2, 21, 22, 100, 2 ** 31, 2 ** 63, 2 ** 64]


def every_pair(many):
    return [(a, b) for a in range(many) for b in range(a + 1, many)]


def every_web(many):
    """All webs of so many places, made without the package."""
    pairs = every_pair(many)
    for choice in range(2 ** len(pairs)):
        yield many, tuple(pair for at, pair in enumerate(pairs) if choice >> at & 1)


def some_ties(many, step):
    """Every step-th pair of places, rising."""
    return tuple(every_pair(many)[::step])


def webs_of_all_sizes():
    """Webs of 3 to 20 places: no ties, few, many and all."""
    for many in range(3, 21):
        yield made_web(many, [])
        for step in (7, 3, 2):
            yield made_web(many, some_ties(many, step))
        yield all_tied(many)


def mixed_webs(many, amount, seed=1):
    """Webs of so many places whose ties are drawn, from few to nearly all; the same ones each time."""
    draw = random.Random(f"{many} {amount} {seed}")
    pairs = every_pair(many)
    for at in range(amount):
        size = round(len(pairs) * (at + 1) / (amount + 1))
        yield many, tuple(sorted(draw.sample(pairs, size)))


def renumbered(draw, web):
    """The same web with its places in a drawn order."""
    names = list(range(web[0]))
    draw.shuffle(names)
    return web[0], tuple(sorted(tuple(sorted((names[a], names[b]))) for a, b in web[1]))


def every_ring(places):
    """Each ring through just these places once, of a web that has every tie."""
    first, *others = sorted(places)
    for order in itertools.permutations(others):
        if order[0] < order[-1]:
            yield (first, *order)


def turns_of(ring):
    """The ring begun at each of its places, both ways round."""
    for row in (ring, ring[::-1]):
        for at in range(len(row)):
            yield row[at:] + row[:at]


def sides(ring):
    """The ties of a ring as a set of pairs, found without the package."""
    return {tuple(sorted((ring[at - 1], ring[at]))) for at in range(len(ring))}


def whole_rings(web, held=()):
    """All whole rings of a web of few places that hold the held ties, each once."""
    many, ties = web
    return [ring for ring in every_ring(range(many)) if set(held) <= sides(ring) <= set(ties)]


def has_loop(ties):
    """Whether ties have a ring among them: take away loose ends till there is none."""
    left = set(ties)
    while True:
        ends = [place for tie in left for place in tie]
        loose = {tie for tie in left if min(map(ends.count, tie)) == 1}
        if not loose:
            return bool(left)
        left -= loose


def every_held(web):
    """All held ties of a web, found by a look at all choices of at most four of its ties."""
    for size in range(5):
        for ties in itertools.combinations(web[1], size):
            if are_held(ties):
                yield ties


def are_held(ties):
    """Whether ties, rising, four at most, can be held: no three at one place and no ring among them."""
    ends = [place for tie in ties for place in tie]
    return all(ends.count(place) <= 2 for place in ends) and not has_loop(ties)


def drawn_held(draw, web, size):
    """So many drawn held ties of a web, or None if they did not come in a few draws."""
    if size > len(web[1]):
        return None
    for attempt in range(50):
        ties = tuple(sorted(draw.sample(web[1], size)))
        if are_held(ties):
            return ties
    return None


def right_paper(web, held, paper):
    """[19] by the letter, of a tuple in one of the five forms: whether what it says is so."""

    def read(thing, taken, dropped):
        word, *parts = thing
        left = set(ties) - dropped
        if word == "few":
            return sum(parts[0] in tie for tie in left) < 2
        if word == "three":
            return sum(parts[0] in tie for tie in taken) >= 3
        if word == "short":
            return 3 <= len(parts[0]) == len(set(parts[0])) < many and sides(parts[0]) <= taken
        if word == "lot":
            return leaves_more(many, left, set(parts[0]))
        tie, one, other = parts
        is_open = tie in left - taken
        return is_open and read(one, taken | {tie}, dropped) and read(other, taken, dropped | {tie})

    many, ties = web
    return read(paper, set(held), set())


def leaves_more(many, ties, lot):
    """Whether more pieces are left without the places of a lot than it has places."""
    group = {place: place for place in range(many) if place not in lot}
    for a, b in ties:
        if a in group and b in group:
            gone = group[b]
            group = {place: group[a] if told == gone else told for place, told in group.items()}
    return len(set(group.values())) > len(lot)


def outcome(call):
    """What a call tells, or the kind of error that it raises, with its fields."""
    try:
        return "told", call()
    except ValueError as error:
        return ("refused", error.__class__, *vars(error).items())


def check_call(test, function, **named):
    """A call leaves its arguments as they were, and tells an equal thing again and by other ways of passing."""
    kept = copy.deepcopy(named)
    first = outcome(lambda: function(**named))
    test.assertEqual(named, kept)
    test.assertEqual(outcome(lambda: function(**named)), first)
    test.assertEqual(outcome(lambda: function(*named.values())), first)
    turned = dict(reversed(list(named.items())))
    test.assertEqual(outcome(lambda: function(**turned)), first)
    test.assertEqual(repr(outcome(lambda: function(**named))), repr(first))
    return first


def check_refused(test, error, function, fields=(), **named):
    """The call is refused with just this error and its fields, and leaves its arguments as they were."""
    test.assertEqual(check_call(test, function, **named), ("refused", error, *fields), short(named))


def check_told(test, value, function, **named):
    """The call tells just this value, of the very kind, and leaves its arguments as they were."""
    told = check_call(test, function, **named)
    test.assertEqual(told, ("told", value), short(named))
    test.assertIs(told[1].__class__, value.__class__)


def short(named):
    return repr(named)[:200]


def check_web(test, web):
    """A web in the form that the document gives it, down to the kinds of its values."""
    test.assertIs(web.__class__, tuple)
    many, ties = web
    test.assertIs(many.__class__, int)
    test.assertIs(ties.__class__, tuple)
    for pair in ties:
        test.assertIs(pair.__class__, tuple)
        a, b = pair
        test.assertIs(a.__class__, int)
        test.assertIs(b.__class__, int)
        test.assertTrue(0 <= a < b < many)
    test.assertEqual(list(ties), sorted(set(ties)))


def check_ints(test, row):
    test.assertIs(row.__class__, tuple)
    for number in row:
        test.assertIs(number.__class__, int)


def check_answer(test, web, held, told):
    """A pair that tells a whole ring with the held ties on it, or a right paper that there is none."""
    test.assertIs(told.__class__, tuple)
    word, answer = told
    test.assertIn(word, ("ring", "none"))
    if word == "ring":
        check_ints(test, answer)
        test.assertEqual(sorted(answer), list(range(web[0])))
        test.assertTrue(set(held) <= sides(answer) <= set(web[1]), (web, held, answer))
    else:
        test.assertTrue(right_paper(web, held, answer), (web, held, answer))
        test.assertIs(lets_by(web, held, answer), True)
