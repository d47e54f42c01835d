"""Things to hand in where the document says "anything", and webs of all sizes to hand in with them."""

import copy

from closedrings.webs import all_tied, made_web


def nested(depth, kind=list):
    thing = kind()
    for step in range(depth - 1):
        thing = kind([thing])
    return thing


def nested_dict(depth):
    thing = {}
    for step in range(depth - 1):
        thing = {step: thing}
    return thing


GREAT = 10 ** 31 - 1

# None of these is an int, so none is a place or a number of places; none is a list or a tuple of pairs either.
NO_INTS = [
    True, False, None, "", "0", "1", "3", "20", "a text", "line\nend\n", [], [0], [3], [0, 1], [[0, 1]],
    (), (0,), (3,), (0, 1), ((0, 1),), {}, {0: 1}, {"a": [1]}, nested(30), nested(30, tuple), nested_dict(30),
    [0] * 99_999, (None,) * 99_999, "~ " * 50_000,
]

GREAT_INTS = [GREAT, -GREAT, 10 ** 20, -1, -2, 21, 22, 100, 2 ** 31, 2 ** 63, 2 ** 64]


def every_pair(many):
    return [(a, b) for a in range(many) for b in range(a + 1, many)]


def every_web(many):
    """All webs of so many places, made without the package."""
    pairs = every_pair(many)
    for choice in range(2 ** len(pairs)):
        yield many, tuple(pair for at, pair in enumerate(pairs) if choice >> at & 1)


def some_ties(many, step):
    """Every step-th pair of places, rising."""
    return tuple(every_pair(many)[::step])


def webs_of_all_sizes():
    """Webs of 3 to 20 places: no ties, few, many and all."""
    for many in range(3, 21):
        yield made_web(many, [])
        for step in (7, 3, 2):
            yield made_web(many, some_ties(many, step))
        yield all_tied(many)


def outcome(call):
    """What a call tells, or the kind of error that it raises."""
    try:
        return "told", call()
    except ValueError as error:
        return "refused", error.__class__


def check_call(test, function, **named):
    """A call leaves its arguments as they were, and tells an equal thing again and by other ways of passing."""
    kept = copy.deepcopy(named)
    first = outcome(lambda: function(**named))
    test.assertEqual(named, kept)
    test.assertEqual(outcome(lambda: function(**named)), first)
    test.assertEqual(outcome(lambda: function(*named.values())), first)
    turned = dict(reversed(list(named.items())))
    test.assertEqual(outcome(lambda: function(**turned)), first)
    test.assertEqual(repr(outcome(lambda: function(**named))), repr(first))
    return first


def check_refused(test, error, function, **named):
    """The call is refused with just this error, and leaves its arguments as they were."""
    test.assertEqual(check_call(test, function, **named), ("refused", error), short(named))


def short(named):
    return repr(named)[:200]


def check_web(test, web):
    """A web in the form that the document gives it, down to the kinds of its values."""
    test.assertIs(web.__class__, tuple)
    many, ties = web
    test.assertIs(many.__class__, int)
    test.assertIs(ties.__class__, tuple)
    for pair in ties:
        test.assertIs(pair.__class__, tuple)
        a, b = pair
        test.assertIs(a.__class__, int)
        test.assertIs(b.__class__, int)
        test.assertTrue(0 <= a < b < many)
    test.assertEqual(list(ties), sorted(set(ties)))


def check_ints(test, row):
    test.assertIs(row.__class__, tuple)
    for number in row:
        test.assertIs(number.__class__, int)
