"""[13] and [14]: led_one, led_back; and what [3] says of them."""

import itertools
import random
import unittest

from closedrings.closing import are_puts, closed, put_ahead, web_with
from closedrings.errors import NoHeld, NoPut, NoRing
from closedrings.leading import led_back, led_one
from closedrings.walks import is_whole_ring
from closedrings.webs import all_tied

from tests.things import (GREAT, STRANGE, check_call, check_ints, check_refused, check_told, drawn_held, every_held,
                          every_pair, every_web, mixed_webs, sides, turns_of, whole_rings)


def least_turn(ring):
    return min(turns_of(ring))


def puts_of(web, more):
    return [pair for pair in every_pair(web[0]) if are_puts(web, more, (pair,))]


def all_turnings(web, held, put, ring):
    """(i, ring) for each i of [13], with p1, .., pn counted from 1 as there; the ring has the put among its ties."""
    turned = [turn for turn in turns_of(ring) if (turn[0], turn[-1]) == put]
    assert len(turned) == 1
    n = len(ring)
    p = dict(enumerate(turned[0], start=1))
    tied = {frozenset(tie) for tie in web[1]}
    kept = {frozenset(tie) for tie in held}
    for i in range(2, n - 1):
        if ({p[1], p[i + 1]} in tied and {p[n], p[i]} in tied and {p[i], p[i + 1]} not in kept):
            yield i, tuple([p[k] for k in range(1, i + 1)] + [p[k] for k in range(n, i, -1)])


def right_led(web, held, put, ring):
    """[13] by the letter."""
    if put not in sides(ring):
        return least_turn(ring)
    return least_turn(next(all_turnings(web, held, put, ring))[1])


def web_without(many, *pairs):
    """The web with all ties but these."""
    return (many, tuple(tie for tie in every_pair(many) if tie not in pairs))


def cases_of(web):
    """All right arguments of led_one for a web of few places."""
    for held in every_held(web):
        for put in puts_of(web, len(held)):
            for ring in whole_rings(web_with(web, (put,)), held):
                yield held, put, ring


def drawn_ring(draw, many, held):
    """A drawn whole ring of the web with all ties that holds the held ties."""
    left = [[place] for place in range(many)]
    for tie in held:
        one, other = [row for row in left if set(row) & set(tie)]
        one = one if one[-1] in tie else one[::-1]
        other = other if other[0] in tie else other[::-1]
        left = [row for row in left if not set(row) & set(tie)] + [one + other]
    draw.shuffle(left)
    return tuple(place for row in left for place in (row if draw.random() < 0.5 else row[::-1]))


def drawn_cases():
    """Webs of 6 to 20 places with held ties whose closing has all ties, with a ring of it."""
    draw = random.Random(31)
    for many in range(6, 21):
        for web in list(mixed_webs(many, 16))[8:]:
            for size in range(5):
                held = drawn_held(draw, web, size)
                if held is not None and closed(web, size)[0] == all_tied(many):
                    yield web, held, drawn_ring(draw, many, held)


class LedOne(unittest.TestCase):

    def test_written_out(self):
        web = web_without(6, (0, 5))
        # The ring from 0 to 5 is 0 1 2 3 4 5: for i = 2 it is turned into 0 1 5 4 3 2.
        for turn in turns_of((0, 1, 2, 3, 4, 5)):
            check_told(self, (0, 1, 5, 4, 3, 2), led_one, web=web, held=(), put=(0, 5), ring=turn)
            check_told(self, (0, 1, 2, 5, 4, 3), led_one, web=web, held=((1, 2),), put=(0, 5), ring=turn)
            check_told(self, (0, 1, 2, 3, 5, 4), led_one, web=web, held=((1, 2), (2, 3)), put=(0, 5), ring=turn)

    def test_the_put_is_not_on_the_ring(self):
        web = web_without(6, (0, 5))
        for ring in ((0, 1, 5, 4, 3, 2), (0, 2, 4, 1, 5, 3)):
            for turn in turns_of(ring):
                check_told(self, ring, led_one, web=web, held=(), put=(0, 5), ring=turn)
                check_told(self, ring, led_one, web=web, held=((1, 5),), put=(0, 5), ring=turn)

    def test_all_that_there_is_in_small_webs(self):
        on_it = off_it = 0
        for web in [*every_web(4), *every_web(5)]:
            for held, put, ring in cases_of(web):
                told = led_one(web, held, put, ring)
                self.assertEqual(told, right_led(web, held, put, ring), (web, held, put, ring))
                self.assertIn(told, whole_rings(web, held))
                on_it += put in sides(ring)
                off_it += put not in sides(ring)
        self.assertGreater(on_it, 1000)
        self.assertGreater(off_it, 100)

    def test_each_turn_of_the_ring(self):
        for web in mixed_webs(6, 5):
            for held, put, ring in itertools.islice(cases_of(web), 0, None, 11):
                right = right_led(web, held, put, ring)
                for turn in turns_of(ring):
                    self.assertEqual(led_one(web, held, put, turn), right)
                check_told(self, right, led_one, web=web, held=held, put=put, ring=ring[::-1])

    def test_great_webs(self):
        seen = set()
        for web, held, ring in drawn_cases():
            more = len(held)
            puts = closed(web, more)[1]
            for left in reversed(range(len(puts))):
                now = web_with(web, puts[:left])
                right = right_led(now, held, puts[left], ring)
                self.assertEqual(led_one(now, held, puts[left], ring), right)
                self.assertIs(is_whole_ring(now, held, right), True)
                if puts[left] in sides(ring):
                    seen.add((more, next(all_turnings(now, held, puts[left], ring))[0]))
                ring = right
        self.assertEqual({more for more, i in seen}, set(range(5)))
        self.assertGreater(max(i for more, i in seen), 4)

    def test_there_is_one_i_more_than_held_ties(self):
        for web, held, ring in drawn_cases():
            puts = closed(web, len(held))[1]
            if puts and puts[-1] in sides(ring):
                now = web_with(web, puts[:-1])
                self.assertGreaterEqual(len(list(all_turnings(now, (), puts[-1], ring))), len(held) + 1)

    def test_the_last_i_there_is(self):
        # The ties of p(i) and p(i + 1) are held for each i below n - 2.
        web = web_without(8, (0, 7))
        held = ((1, 2), (2, 3), (3, 4), (4, 5))
        check_told(self, (0, 1, 2, 3, 4, 5, 7, 6), led_one, web=web, held=held, put=(0, 7),
                   ring=(0, 1, 2, 3, 4, 5, 6, 7))
        check_told(self, (0, 1, 7, 6, 5, 4, 3, 2), led_one, web=web, held=(), put=(0, 7),
                   ring=(0, 1, 2, 3, 4, 5, 6, 7))

    def test_no_held(self):
        web = web_without(6, (0, 5), (0, 4))
        ring = (0, 1, 2, 3, 4, 5)
        wrong = [((0, 5),), ((0, 4),), ((1, 0),), ((1, 2), (0, 1)), ((0, 1), (0, 2), (0, 3)), ((0, 1), (0, 2), (1, 2)),
                 ((0, 1), (0, 1)), [(0, 1)], [], None, ((0, 1), (1, 2), (2, 3), (3, 4), (4, 5)), ((0, True),)]
        for held in wrong + STRANGE:
            check_refused(self, NoHeld, led_one, web=web, held=held, put=(0, 5), ring=ring)
        for held in wrong:
            for put in ((0, 1), None, (5, 0)):
                for row in (ring, None, ring[1:], []):
                    check_refused(self, NoHeld, led_one, web=web, held=held, put=put, ring=row)
                    check_refused(self, NoHeld, led_one, web=web, held=held, put=(0, 5), ring=row)

    def test_no_put(self):
        web = web_without(6, (0, 5), (0, 4), (1, 5))
        # The counts are 3, 4, 5, 5, 4, 3.
        ring = (0, 1, 2, 3, 4, 5)
        self.assertEqual(check_call(self, led_one, web=web, held=(), put=(0, 5), ring=ring)[0], "told")
        wrong = [(5, 0), (0, 1), (1, 2), (0, 0), (0, 6), (-1, 5), (GREAT, 5), (0, GREAT), [0, 5], (0,), (0, 5, 5), (),
                 ((0, 5),), ((0, 5), (0, 5)), (False, 5), (False, True), (0, True), (0, "5"), (None, 5), {0: 5}, "05"]
        for put in wrong + STRANGE:
            check_refused(self, NoPut, led_one, web=web, held=(), put=put, ring=ring)
        for put in wrong:
            for row in (None, ring[1:], [], (0, 5)):
                check_refused(self, NoPut, led_one, web=web, held=(), put=put, ring=row)
                check_refused(self, NoPut, led_one, web=web, held=((1, 2),), put=put, ring=row)

    def test_a_put_for_as_many_as_are_held(self):
        web = web_without(6, (0, 5), (0, 4), (1, 5))
        ring = (0, 1, 2, 3, 4, 5)
        # Together (0, 5) has 6, which is enough for none held; (0, 4) has 7, which is enough for one.
        self.assertEqual(led_one(web, (), (0, 5), ring), right_led(web, (), (0, 5), ring))
        for held in (((1, 2),), ((0, 1), (1, 2))):
            check_refused(self, NoPut, led_one, web=web, held=held, put=(0, 5), ring=ring)
            check_refused(self, NoPut, led_one, web=web, held=held, put=(0, 5), ring=None)
        other = (0, 4, 5, 3, 2, 1)
        check_told(self, right_led(web, ((0, 1),), (0, 4), other), led_one, web=web, held=((0, 1),), put=(0, 4),
                   ring=other)
        check_refused(self, NoPut, led_one, web=web, held=((0, 1), (2, 3)), put=(0, 4), ring=other)

    def test_no_ring(self):
        web = web_without(7, (0, 6), (0, 5))
        ring = (0, 1, 2, 3, 4, 5, 6)
        check_call(self, led_one, web=web, held=((2, 3),), put=(0, 6), ring=ring)
        wrong = [ring[1:], ring[:-1], ring + (0,), list(ring), (), ring + (7,), (0, 1, 2, 3, 4, 6, 5), (ring,),
                 (0, 2, 4, 6, 1, 3, 5), (False, 1, 2, 3, 4, 5, 6), (0, True, 2, 3, 4, 5, 6), ring[:-1] + ("6",),
                 ring[:-1] + (None,), ring[:-1] + (GREAT,), ring[:-1] + (-1,), None, "0123456", {0: ring}]
        for row in wrong + STRANGE:
            for held in ((), ((2, 3),)):
                check_refused(self, NoRing, led_one, web=web, held=held, put=(0, 6), ring=row)
        # Whole rings of the web with the put that do not hold what is held.
        for held in (((0, 2),), ((1, 3),), ((0, 1), (1, 3))):
            check_refused(self, NoRing, led_one, web=web, held=held, put=(0, 6), ring=ring)

    def test_a_ring_of_the_web_with_the_put_alone(self):
        web = web_without(7, (0, 6), (2, 5))
        for ring in ((0, 6, 1, 3, 5, 2, 4), (0, 1, 3, 5, 2, 4, 6)):
            check_refused(self, NoRing, led_one, web=web, held=(), put=(0, 6), ring=ring)
        check_refused(self, NoRing, led_one, web=web, held=(), put=(2, 5), ring=(0, 6, 1, 2, 3, 4, 5))


class LedBack(unittest.TestCase):

    def check_rings(self, web, held, puts, ring):
        """Each ring is led_one's of the one before it, and a whole ring of its own web."""
        rings = led_back(web, held, puts, ring)
        self.assertIs(rings.__class__, tuple)
        self.assertEqual(len(rings), len(puts) + 1)
        self.assertEqual(rings[0], least_turn(ring))
        for at, told in enumerate(rings):
            check_ints(self, told)
            now = web_with(web, puts[:len(puts) - at])
            self.assertIs(is_whole_ring(now, held, told), True)
            self.assertEqual(told, least_turn(told))
            if at:
                put = puts[len(puts) - at]
                self.assertEqual(told, right_led(now, held, put, rings[at - 1]))
                self.assertEqual(told, led_one(now, held, put, rings[at - 1]))
        self.assertIs(is_whole_ring(web, held, rings[-1]), True)
        return rings

    def test_written_out(self):
        web = (5, ((0, 1), (0, 2), (0, 3), (1, 4), (2, 3), (2, 4)))
        puts = ((0, 4), (1, 2), (1, 3), (3, 4))
        # (3, 4) is on the first ring, and (1, 3) on the second one; (1, 2) and (0, 4) are not on the third.
        rings = ((0, 1, 2, 3, 4), (0, 1, 3, 2, 4), (0, 1, 4, 2, 3), (0, 1, 4, 2, 3), (0, 1, 4, 2, 3))
        for turn in turns_of((0, 1, 2, 3, 4)):
            check_told(self, rings, led_back, web=web, held=(), puts=puts, ring=turn)
        self.assertEqual(self.check_rings(web, (), puts, (3, 2, 1, 0, 4)), rings)

    def test_over_none(self):
        for many in range(3, 21):
            web = all_tied(many)
            ring = tuple(range(1, many, 2)) + tuple(range(0, many, 2))
            held = tuple(sorted(sides(ring)))[:2]
            for turn in turns_of(ring):
                self.assertEqual(led_back(web, held, (), turn), (least_turn(ring),))
            check_told(self, (least_turn(ring),), led_back, web=web, held=held, puts=(), ring=ring)
        web = (4, ((0, 1), (0, 3), (1, 2), (2, 3)))
        check_told(self, ((0, 1, 2, 3),), led_back, web=web, held=((0, 3),), puts=(), ring=(2, 1, 0, 3))

    def test_over_one(self):
        for web in list(every_web(5))[::5]:
            for held, put, ring in cases_of(web):
                right = (least_turn(ring), led_one(web, held, put, ring))
                self.assertEqual(led_back(web, held, (put,), ring), right)

    def test_over_all_puts_of_the_closing(self):
        sizes = set()
        for web, held, ring in drawn_cases():
            puts = closed(web, len(held))[1]
            self.check_rings(web, held, puts, ring)
            sizes.add((len(held), min(len(puts), 2)))
        self.assertTrue({(size, 2) for size in range(5)} <= sizes)

    def test_over_puts_in_another_order(self):
        draw = random.Random(5)
        for web, held, ring in list(drawn_cases())[::3]:
            now, puts = web, []
            while put_ahead(now, len(held)) is not None:
                puts.append(draw.choice(puts_of(now, len(held))))
                now = web_with(now, puts[-1:])
            self.assertEqual(now, all_tied(web[0]))
            self.check_rings(web, held, tuple(puts), ring)

    def test_over_some_puts(self):
        for web in list(mixed_webs(6, 9))[3:]:
            for held in list(every_held(web))[::5]:
                puts = closed(web, len(held))[1]
                for size in range(min(len(puts), 3) + 1):
                    for ring in whole_rings(web_with(web, puts[:size]), held)[::3]:
                        self.check_rings(web, held, puts[:size], ring)

    def test_by_names_and_again(self):
        for web, held, ring in list(drawn_cases())[::40]:
            puts = closed(web, len(held))[1]
            word, rings = check_call(self, led_back, web=web, held=held, puts=puts, ring=ring)
            self.assertEqual(word, "told")
            self.assertEqual(rings, self.check_rings(web, held, puts, ring))

    def test_no_held(self):
        web = web_without(6, (0, 5), (0, 4))
        ring = (0, 1, 2, 3, 4, 5)
        # (0, 5) and (0, 4) are ties of the web with the puts, not of the web.
        wrong = [((0, 5),), ((0, 4),), ((1, 0),), ((1, 2), (0, 1)), ((0, 1), (0, 2), (0, 3)), ((0, 1), (0, 2), (1, 2)),
                 [(0, 1)], [], None, ((0, 1), (1, 2), (2, 3), (3, 4), (4, 5)), ((0, True),)]
        for held in wrong + STRANGE:
            check_refused(self, NoHeld, led_back, web=web, held=held, puts=((0, 5), (0, 4)), ring=ring)
        for held in wrong:
            for puts in ((), ((0, 5),), ((0, 1),), None, [], ((5, 0),)):
                for row in (ring, None, ring[1:], []):
                    check_refused(self, NoHeld, led_back, web=web, held=held, puts=puts, ring=row)

    def test_no_puts(self):
        web = web_without(6, (0, 5), (0, 4), (1, 5))
        ring = (0, 1, 2, 3, 4, 5)
        wrong = [(0, 5), [(0, 5)], [], ((5, 0),), ((0, 5), (0, 5)), ((0, 5), (0, 1)), ((0, 1),), ((0, 5), (0, 6)),
                 ((0, 5), None), ((False, 5),), ((0, 5), [0, 4]), ((0, 5, 5),), ((0, 5), ()), {}, None, "05"]
        for puts in wrong + STRANGE:
            check_refused(self, NoPut, led_back, web=web, held=(), puts=puts, ring=ring)
        for puts in wrong:
            for row in (None, ring[1:], [], (0, 5)):
                check_refused(self, NoPut, led_back, web=web, held=(), puts=puts, ring=row)
                check_refused(self, NoPut, led_back, web=web, held=((1, 2),), puts=puts, ring=row)

    def test_puts_for_as_many_as_are_held(self):
        web = web_without(6, (0, 5), (0, 4), (1, 5))
        ring = (0, 1, 2, 3, 4, 5)
        self.check_rings(web, (), ((0, 5),), ring)
        check_refused(self, NoPut, led_back, web=web, held=((1, 2),), puts=((0, 5),), ring=ring)
        # With (0, 4) put in, (0, 5) has 7 together.
        self.check_rings(web, ((1, 2),), ((0, 4), (0, 5)), ring)
        check_refused(self, NoPut, led_back, web=web, held=((1, 2),), puts=((0, 5), (0, 4)), ring=ring)
        check_refused(self, NoPut, led_back, web=web, held=((1, 2), (2, 3)), puts=((0, 4), (0, 5)), ring=ring)

    def test_no_ring(self):
        web = web_without(7, (0, 6), (0, 5), (1, 5))
        ring = (0, 1, 2, 3, 4, 5, 6)
        wrong = [ring[1:], ring[:-1], ring + (0,), list(ring), (), ring + (7,), (0, 2, 4, 6, 1, 5, 3), (ring,),
                 (False, 1, 2, 3, 4, 5, 6), (0, True, 2, 3, 4, 5, 6), ring[:-1] + ("6",), ring[:-1] + (None,),
                 ring[:-1] + (GREAT,), ring[:-1] + (-1,), None, "0123456", {0: ring}, (ring, ring)]
        for row in wrong + STRANGE:
            for held in ((), ((2, 3),)):
                check_refused(self, NoRing, led_back, web=web, held=held, puts=((0, 6), (0, 5)), ring=row)
        for held in (((0, 2),), ((1, 3),), ((0, 1), (1, 3))):
            check_refused(self, NoRing, led_back, web=web, held=held, puts=((0, 6),), ring=ring)
        # A ring of the web with all puts it is not, while (0, 6) is not among them.
        check_refused(self, NoRing, led_back, web=web, held=(), puts=((0, 5),), ring=ring)
        check_refused(self, NoRing, led_back, web=web, held=(), puts=(), ring=ring)


if __name__ == "__main__":
    unittest.main()
