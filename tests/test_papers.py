"""[19]: lets_by; and what [3] says of papers."""

import itertools
import random
import unittest

from closedrings.errors import NoHeld
from closedrings.papers import lets_by
from closedrings.rows import even_web, tight_web
from closedrings.webs import all_tied

from tests.things import (GREAT, NEVER_HELD, STRANGE, check_refused, check_told, drawn_held, every_held,
                          every_pair, every_ring, every_web, mixed_webs, nested, right_paper, sides, whole_rings)

STAR = (4, ((0, 1), (0, 2), (0, 3)))
SQUARE = (4, ((0, 1), (0, 3), (1, 2), (2, 3)))


def is_number(thing, many):
    return thing.__class__ is int and 0 <= thing < many


def are_numbers(thing, many):
    return thing.__class__ is tuple and all(is_number(place, many) for place in thing)


def has_form(web, thing):
    """Whether a thing is a tuple in one of the five forms, right or wrong."""
    many = web[0]
    if thing.__class__ is not tuple or not thing or thing[0].__class__ is not str:
        return False
    if thing[0] == "tie":
        return (len(thing) == 4 and are_numbers(thing[1], many) and len(thing[1]) == 2
                and has_form(web, thing[2]) and has_form(web, thing[3]))
    if len(thing) != 2:
        return False
    if thing[0] in ("few", "three"):
        return is_number(thing[1], many)
    if thing[0] == "short":
        return are_numbers(thing[1], many)
    return (thing[0] == "lot" and are_numbers(thing[1], many) and len(thing[1]) > 0
            and list(thing[1]) == sorted(set(thing[1])))


def is_right(web, held, thing):
    return has_form(web, thing) and right_paper(web, held, thing)


def every_row(many):
    return [row for size in range(many + 1) for row in itertools.permutations(range(many), size)]


def plain_papers(many):
    """All papers of the four forms without another in them, right or wrong, of a web of few places."""
    yield from ((word, place) for word in ("few", "three") for place in range(many))
    yield from ((word, row) for word in ("short", "lot") for row in every_row(many))


def drawn_plain(draw, web):
    many = web[0]
    word = draw.choice(("few", "three", "short", "lot"))
    if word in ("few", "three"):
        return word, draw.randrange(many)
    places = draw.sample(range(many), draw.randint(1, many))
    return word, tuple(sorted(places) if word == "lot" else places)


def right_plain(web, held, taken, dropped):
    """All right papers without another in them where more ties are taken and dropped; lots of two places at most."""
    many, ties = web
    found = []
    left = [tie for tie in ties if tie not in dropped]
    for place in range(many):
        if sum(place in tie for tie in left) < 2:
            found.append(("few", place))
        if sum(place in tie for tie in taken) > 2:
            found.append(("three", place))
    for size in (1, 2):
        for lot in itertools.combinations(range(many), size):
            if right_paper((many, tuple(left)), (), ("lot", lot)):
                found.append(("lot", lot))
    for size in range(3, many):
        for places in itertools.combinations(range(many), size):
            found += [("short", ring) for ring in every_ring(places) if sides(ring) <= set(taken)]
    return found


def drawn_right(draw, web, held, taken=None, dropped=()):
    """A drawn right paper of a web without a whole ring that holds the held ties."""
    taken = held if taken is None else taken
    plain = right_plain(web, held, taken, dropped)
    opened = [tie for tie in web[1] if tie not in taken and tie not in dropped]
    if plain and (not opened or draw.random() < 0.8):
        return draw.choice(plain)
    tie = draw.choice(opened)
    one = drawn_right(draw, web, held, taken + (tie,), dropped)
    return "tie", tie, one, drawn_right(draw, web, held, taken, dropped + (tie,))


def spots(thing):
    """The way to each thing within nested tuples."""
    yield ()
    if isinstance(thing, tuple):
        for at, part in enumerate(thing):
            for spot in spots(part):
                yield at, *spot


def put_at(thing, spot, other):
    if not spot:
        return other
    at, *rest = spot
    return thing[:at] + (put_at(thing[at], rest, other),) + thing[at + 1:]


def get_at(thing, spot):
    for at in spot:
        thing = thing[at]
    return thing


def bent_paper(draw, web, paper):
    """The paper with one thing in it changed somehow."""
    spot = draw.choice(list(spots(paper)))
    old = get_at(paper, spot)
    choices = [draw.randrange(web[0] + 1), True, None, "few", draw.choice(web[1]) if web[1] else (),
               drawn_plain(draw, web), draw.choice(STRANGE[:8])]
    if isinstance(old, tuple):
        choices += [list(old), old[:-1], old + old[-1:], old[::-1], (old,)]
        if len(old) == 4:
            choices += 3 * [old[:2] + (old[3], old[2])]
    if isinstance(old, str):
        choices += [draw.choice(("few", "three", "short", "lot", "tie")), old + " ", old.upper()]
    return put_at(paper, spot, draw.choice(choices))


class Plain(unittest.TestCase):

    def test_few(self):
        for place in range(4):
            check_told(self, place != 0, lets_by, web=STAR, held=(), thing=("few", place))
            check_told(self, False, lets_by, web=SQUARE, held=(), thing=("few", place))
        check_told(self, True, lets_by, web=(3, ()), held=(), thing=("few", 0))
        check_told(self, True, lets_by, web=(20, ((0, 19),)), held=((0, 19),), thing=("few", 19))

    def test_three(self):
        # Held ties alone have no three at one place.
        for place in range(4):
            check_told(self, False, lets_by, web=STAR, held=((0, 1), (0, 2)), thing=("three", place))
        paper = ("tie", (0, 3), ("three", 0), ("few", 3))
        check_told(self, True, lets_by, web=STAR, held=((0, 1), (0, 2)), thing=paper)
        check_told(self, False, lets_by, web=STAR, held=((0, 1),), thing=paper)
        check_told(self, False, lets_by, web=all_tied(4), held=((0, 1), (0, 2)), thing=paper)
        other = ("tie", (0, 3), ("three", 3), ("few", 3))
        check_told(self, False, lets_by, web=STAR, held=((0, 1), (0, 2)), thing=other)

    def test_short(self):
        # Places 0, 1 and 2 have two ties each, and so has 3, 4 and 5: two rings, joined by nothing.
        web = (6, ((0, 1), (0, 2), (1, 2), (3, 4), (3, 5), (4, 5)))
        held = ((0, 1), (0, 2))
        for ring in ((0, 1, 2), (2, 1, 0), (1, 2, 0)):
            check_told(self, False, lets_by, web=web, held=held, thing=("short", ring))
            paper = ("tie", (1, 2), ("short", ring), ("few", 1))
            check_told(self, True, lets_by, web=web, held=held, thing=paper)
            check_told(self, False, lets_by, web=web, held=held[:1], thing=paper)
        for row in ((3, 4, 5), (0, 1), (0, 1, 2, 3), (0, 1, 2, 0), (), (0, 1, 1), [0, 1, 2], (0, True, 2)):
            paper = ("tie", (1, 2), ("short", row), ("few", 1))
            check_told(self, False, lets_by, web=web, held=held, thing=paper)

    def test_short_is_not_of_all_places(self):
        held = ((0, 1), (1, 2), (2, 3))
        web = (4, ((0, 1), (0, 3), (1, 2), (2, 3)))
        paper = ("tie", (0, 3), ("short", (0, 1, 2, 3)), ("few", 0))
        check_told(self, False, lets_by, web=web, held=held, thing=paper)
        web = (5, ((0, 1), (0, 3), (1, 2), (2, 3), (3, 4)))
        check_told(self, True, lets_by, web=web, held=held, thing=paper)

    def test_lot(self):
        check_told(self, True, lets_by, web=STAR, held=(), thing=("lot", (0,)))
        check_told(self, True, lets_by, web=STAR, held=((0, 1),), thing=("lot", (0,)))
        for lot in ((1,), (0, 1), (), [0], (0, 0), (False,), 0, None, (4,), (-1,), ((0,),)):
            check_told(self, False, lets_by, web=STAR, held=(), thing=("lot", lot))
        for many in range(3, 21):
            for i in range(1, (many + 1) // 2):
                web = tight_web(many, i)
                check_told(self, True, lets_by, web=web, held=(), thing=("lot", tuple(range(i))))
                check_told(self, False, lets_by, web=web, held=(), thing=("lot", tuple(range(1, i + 1))))
                check_told(self, False, lets_by, web=all_tied(many), held=(), thing=("lot", tuple(range(i))))

    def test_all_of_small_webs(self):
        for web in [*every_web(3), *every_web(4), *mixed_webs(5, 3)]:
            papers = list(plain_papers(web[0]))
            for held in every_held(web):
                for paper in papers:
                    told = lets_by(web, held, paper)
                    self.assertIs(told, is_right(web, held, paper), (web, held, paper))


class Ties(unittest.TestCase):

    def test_a_lot_behind_dropped_ties(self):
        web = (6, tuple(sorted(set(tight_web(6, 2)[1]) | {(2, 3)})))
        lot = ("lot", (0, 1))
        check_told(self, False, lets_by, web=web, held=(), thing=lot)
        check_told(self, False, lets_by, web=web, held=(), thing=("tie", (2, 3), lot, lot))
        # Taken, (2, 3) and what must be taken with it at 4 and 5 leave too many ties at 0 and 1.
        taken = ("tie", (0, 1), lot, lot)
        check_told(self, False, lets_by, web=web, held=(), thing=("tie", (2, 3), taken, lot))
        held = ((0, 4), (0, 5), (1, 4))
        self.assertEqual(whole_rings(web, held), [])
        check_told(self, False, lets_by, web=web, held=held, thing=("tie", (2, 3), lot, lot))
        at_0 = ("tie", (0, 2), ("three", 0), ("few", 2))
        at_2 = ("tie", (1, 2), ("tie", (1, 3), ("three", 1), ("tie", (0, 3), ("three", 0), ("few", 3))), at_0)
        check_told(self, True, lets_by, web=web, held=held, thing=("tie", (2, 3), at_2, lot))
        check_told(self, False, lets_by, web=web, held=held, thing=("tie", (2, 3), lot, at_2))
        check_told(self, False, lets_by, web=web, held=held[:2], thing=("tie", (2, 3), at_2, lot))

    def test_a_short_ring_behind_taken_ties(self):
        web = (6, ((0, 1), (0, 2), (0, 3), (1, 2), (3, 4), (3, 5), (4, 5)))
        short = ("short", (0, 1, 2))
        two = ("tie", (0, 2), ("tie", (1, 2), short, ("few", 1)), ("few", 2))
        paper = ("tie", (0, 1), two, ("few", 1))
        check_told(self, True, lets_by, web=web, held=(), thing=paper)
        check_told(self, False, lets_by, web=web, held=(), thing=two)
        check_told(self, True, lets_by, web=web, held=((0, 1),), thing=two)
        check_told(self, False, lets_by, web=web, held=((0, 1),), thing=paper)
        check_told(self, False, lets_by, web=web, held=(), thing=("tie", (0, 1), ("few", 1), two))

    def test_open_is_neither_taken_nor_dropped_nor_no_tie(self):
        few = ("few", 3)
        check_told(self, True, lets_by, web=STAR, held=(), thing=("tie", (0, 1), few, few))
        for pair in ((1, 0), [0, 1], (1, 2), (0, 0), (0, 4), (-1, 0), (0, True), (False, 1), (0,), (0, 1, 2), (), 0,
                     None, "01", ("0", "1"), ((0, 1),), (0, GREAT), {0: 1}, (0, None), (0, (1,)), nested(28, tuple)):
            check_told(self, False, lets_by, web=STAR, held=(), thing=("tie", pair, few, few))
        check_told(self, False, lets_by, web=STAR, held=((0, 1),), thing=("tie", (0, 1), few, few))
        check_told(self, True, lets_by, web=STAR, held=((0, 1),), thing=("tie", (0, 2), few, few))
        again = ("tie", (0, 1), few, few)
        for paper in (("tie", (0, 1), again, few), ("tie", (0, 1), few, again),
                      ("tie", (0, 2), ("tie", (0, 1), again, few), few),
                      ("tie", (0, 2), few, ("tie", (0, 1), few, again))):
            check_told(self, False, lets_by, web=STAR, held=(), thing=paper)
        check_told(self, True, lets_by, web=STAR, held=(), thing=("tie", (0, 2), again, again))

    def test_both_papers_must_be_right(self):
        right, wrong = ("few", 1), ("few", 0)
        for one, other in itertools.product((right, wrong, None, (), [], "few"), repeat=2):
            check_told(self, one == other == right, lets_by, web=STAR, held=(), thing=("tie", (0, 1), one, other))

    def test_drawn_papers_right_and_bent(self):
        draw = random.Random(19)
        seen = {True: 0, False: 0}
        webs = [*list(every_web(4))[::3], *mixed_webs(5, 20), *mixed_webs(6, 12), even_web(4)]
        for web in webs:
            for held in [held for held in every_held(web) if not whole_rings(web, held)][::6]:
                paper = drawn_right(draw, web, held)
                check_told(self, True, lets_by, web=web, held=held, thing=paper)
                for at in range(25):
                    bent = bent_paper(draw, web, paper)
                    told = lets_by(web, held, bent)
                    self.assertIs(told, is_right(web, held, bent), (web, held, bent))
                    seen[told] += 1
        self.assertGreater(min(seen.values()), 200)

    def test_no_paper_where_there_is_a_ring(self):
        draw = random.Random(91)
        for web in mixed_webs(5, 20):
            without = [held for held in every_held(web) if not whole_rings(web, held)][:3]
            with_ring = [held for held in every_held(web) if whole_rings(web, held)][::10]
            for held in with_ring:
                for less in without:
                    paper = drawn_right(draw, web, less)
                    check_told(self, False, lets_by, web=web, held=held, thing=paper)
            for more in [tie for tie in every_pair(5) if tie not in web[1]]:
                fuller = (5, tuple(sorted(web[1] + (more,))))
                for held in without:
                    if whole_rings(fuller, held):
                        self.assertIs(lets_by(fuller, held, drawn_right(draw, web, held)), False)


class Bent(unittest.TestCase):

    def test_the_form(self):
        for paper in (("few", 1), ("lot", (0,)), ("tie", (0, 1), ("few", 1), ("few", 2))):
            check_told(self, True, lets_by, web=STAR, held=(), thing=paper)
            for wrong in (list(paper), paper + (1,), paper[:-1], paper[::-1], (paper,), (paper, paper), paper[1:],
                          ("none", paper), {paper[0]: 1}, (paper[0].upper(), *paper[1:]), (paper[0] + "\n", *paper[1:]),
                          (None, *paper[1:]), ((paper[0],), *paper[1:]), (*paper[:-1], True), (*paper[:-1], None),
                          ("some", *paper[1:]), ("", *paper[1:]), (1, *paper[1:]), paper[0], paper[0] + " 1"):
                check_told(self, False, lets_by, web=STAR, held=(), thing=wrong)
        for place in (True, False, -1, 4, GREAT, -GREAT, None, "1", (1,), [1], {1: 1}, (), "", nested(29, tuple)):
            for word in ("few", "three", "short", "lot", "tie", "some"):
                check_told(self, False, lets_by, web=STAR, held=(), thing=(word, place))
        # A word with the parts of another.
        for wrong in (("few", (1,)), ("lot", 0), ("short", 1), ("tie", (0, 1)), ("few", (0, 1), ("few", 1), ("few", 1)),
                      ("tie", 1), ("few", 1, ("few", 1), ("few", 1)), ("tie", (0, 1), ("few", 1)),
                      ("tie", (0, 1), ("few", 1), ("few", 1), ("few", 1)), ("tie", ("few", 1), (0, 1), ("few", 1))):
            check_told(self, False, lets_by, web=STAR, held=(), thing=wrong)

    def test_lists_for_tuples_within(self):
        right = ("tie", (0, 1), ("few", 1), ("lot", (0,)))
        check_told(self, True, lets_by, web=STAR, held=(), thing=right)
        for spot in spots(right):
            part = get_at(right, spot)
            if isinstance(part, tuple):
                check_told(self, False, lets_by, web=STAR, held=(), thing=put_at(right, spot, list(part)) if spot
                           else list(right))

    def test_anything(self):
        full = all_tied(20)
        for web, held in ((STAR, ()), (STAR, ((0, 1),)), ((3, ()), ()), (full, ((0, 1), (1, 2))), ((20, ()), ())):
            for thing in STRANGE + [(), (0,), (0, 1), ((0, 1),)]:
                check_told(self, False, lets_by, web=web, held=held, thing=thing)
                check_told(self, False, lets_by, web=web, held=held, thing=("short", thing))
                check_told(self, False, lets_by, web=web, held=held, thing=("few", thing) if thing.__class__ is not int
                           else ("three", thing))
                if web[1] and held == ():
                    papers = ("tie", web[1][0], thing, thing)
                    check_told(self, False, lets_by, web=web, held=held, thing=papers)

    def test_nested_deeply(self):
        web = tight_web(20, 1)
        lot = ("lot", (0,))
        for deep in (1, 5, 28, 29, 40, 100):
            for last in (lot, ("few", 19), None, nested(2, tuple)):
                one = other = mixed = last
                for tie in web[1][:deep]:
                    one, other = ("tie", tie, one, lot), ("tie", tie, lot, other)
                    mixed = ("tie", tie, mixed, lot) if sum(tie) % 2 else ("tie", tie, lot, mixed)
                for paper in (one, other, mixed):
                    check_told(self, last == lot, lets_by, web=web, held=(), thing=paper)
                    check_told(self, False, lets_by, web=web, held=(web[1][deep // 2],), thing=paper)

    def test_great_papers(self):
        for web, leaf in ((tight_web(20, 9), ("lot", tuple(range(9)))), (tight_web(20, 1), ("few", 1))):
            paper = leaf
            for tie in web[1][1:12]:
                paper = ("tie", tie, paper, paper)
            check_told(self, True, lets_by, web=web, held=(), thing=paper)
            check_told(self, False, lets_by, web=all_tied(20), held=(), thing=paper)


class Held(unittest.TestCase):

    def test_no_held_comes_first(self):
        web = (7, ((0, 1), (0, 2), (0, 3), (0, 4), (1, 2), (1, 3), (2, 3), (3, 4), (4, 5)))
        for held in NEVER_HELD + [((5, 6),), ((0, 5),)]:
            for thing in (("few", 6), ("few", 0), None, [], ("tie", (0, 1), ("few", 6), ("few", 6))):
                check_refused(self, NoHeld, lets_by, web=web, held=held, thing=thing)
        for thing in STRANGE:
            check_refused(self, NoHeld, lets_by, web=web, held=thing, thing=thing)
            check_refused(self, NoHeld, lets_by, web=web, held=((5, 6),), thing=thing)

    def test_held_ties_are_taken_at_first(self):
        draw = random.Random(2)
        for many, ties in mixed_webs(6, 12):
            # Place 6 has no ties, so the paper is right if only the tie is open.
            web = (7, ties)
            for size in range(1, 5):
                held = drawn_held(draw, web, size)
                for tie in ties if held is not None else ():
                    paper = ("tie", tie, ("few", 6), ("few", 6))
                    check_told(self, tie not in held, lets_by, web=web, held=held, thing=paper)
        web = (5, ((0, 1), (0, 2), (1, 2), (2, 3), (2, 4), (3, 4)))
        paper = ("tie", (2, 3), ("three", 2), ("few", 3))
        check_told(self, True, lets_by, web=web, held=((0, 2), (1, 2)), thing=paper)
        check_told(self, False, lets_by, web=web, held=((0, 2),), thing=paper)
        check_told(self, False, lets_by, web=web, held=(), thing=paper)


if __name__ == "__main__":
    unittest.main()
