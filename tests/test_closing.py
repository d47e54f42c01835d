"""[10], [11] and [12]: put_ahead, are_puts, web_with, closed; and what [3] says of the closing."""

import itertools
import random
import unittest

from closedrings.closing import are_puts, closed, put_ahead, web_with
from closedrings.webs import all_tied

from tests.things import (GREAT, STRANGE, check_call, check_ints, check_told, check_web, every_held, every_pair,
                          every_web, mixed_webs, nested, webs_of_all_sizes, whole_rings)

MORE = range(5)


def right_puts(web, more):
    """All puts of a web, rising, by a look at all pairs."""
    many, ties = web
    ends = [place for tie in ties for place in tie]
    counts = [ends.count(place) for place in range(many)]
    left = [pair for pair in every_pair(many) if counts[pair[0]] + counts[pair[1]] >= many + more]
    return sorted(set(left) - set(ties))


def plus(web, pairs):
    return (web[0], tuple(sorted(set(web[1]) | set(pairs))))


def are_right_puts(web, more, pairs):
    for at, pair in enumerate(pairs):
        if pair not in right_puts(plus(web, pairs[:at]), more):
            return False
    return True


def many_webs():
    yield from every_web(3)
    yield from every_web(4)
    yield from mixed_webs(5, 40)
    yield from webs_of_all_sizes()
    for many in range(6, 21):
        yield from mixed_webs(many, 8)


class PutAhead(unittest.TestCase):

    def test_written_out(self):
        web = (5, ((0, 1), (0, 2), (0, 3), (1, 2), (1, 3), (2, 4), (3, 4)))
        # The counts are 3, 3, 3, 3, 2: (2, 3) has 6 together, (0, 4) and (1, 4) have 5.
        check_told(self, (0, 4), put_ahead, web=web, more=0)
        check_told(self, (2, 3), put_ahead, web=web, more=1)
        for more in (2, 3, 4):
            check_told(self, None, put_ahead, web=web, more=more)

    def test_by_a_look_at_all_pairs(self):
        for web in many_webs():
            for more in MORE:
                puts = right_puts(web, more)
                told = put_ahead(web, more)
                self.assertEqual(told, puts[0] if puts else None, (web, more))
                if puts:
                    check_ints(self, told)

    def test_every_web_of_five_places(self):
        for web in every_web(5):
            for more in (0, 1):
                self.assertEqual(put_ahead(web, more), (right_puts(web, more) or [None])[0], (web, more))

    def test_there_are_puts_for_each_more(self):
        for more in MORE:
            found = [web for web in many_webs() if right_puts(web, more)]
            self.assertGreater(len(found), 10, more)

    def test_by_names_and_again(self):
        for web in [*mixed_webs(7, 6), *mixed_webs(20, 6)]:
            for more in MORE:
                check_told(self, (right_puts(web, more) or [None])[0], put_ahead, web=web, more=more)

    def test_all_ties_leave_no_put(self):
        for many in range(3, 21):
            for more in MORE:
                check_told(self, None, put_ahead, web=all_tied(many), more=more)

    def test_just_enough_and_one_less(self):
        # Places 0 and 1 have no tie; each is tied to all others, and then one to one less.
        for many in range(4, 21):
            rest = [(a, b) for a in (0, 1) for b in range(2, many)]
            web = (many, tuple(sorted(rest)))
            for more in MORE:
                right = (0, 1) if 2 * (many - 2) >= many + more else None
                self.assertEqual(put_ahead(web, more), right)
            for size in range(len(rest)):
                less = (many, tuple(sorted(rest[:size])))
                for more in MORE:
                    self.assertEqual((0, 1) in right_puts(less, more), put_ahead(less, more) == (0, 1))


class Puts(unittest.TestCase):

    def test_none_are_puts_of_each_web(self):
        for web in webs_of_all_sizes():
            for more in MORE:
                check_told(self, True, are_puts, web=web, more=more, thing=())

    def test_each_pair_by_itself(self):
        for web in many_webs():
            for more in MORE:
                puts = right_puts(web, more)
                for pair in every_pair(web[0]):
                    self.assertIs(are_puts(web, more, (pair,)), pair in puts, (web, more, pair))

    def test_each_row_of_pairs(self):
        for web in [*list(every_web(4))[::3], *list(mixed_webs(5, 12))[4:]]:
            pairs = every_pair(web[0])
            for size in (2, 3):
                for row in itertools.product(pairs, repeat=size):
                    self.assertIs(are_puts(web, 0, row), are_right_puts(web, 0, row), (web, row))

    def test_a_pair_may_hang_on_those_before_it(self):
        web = (4, ((0, 1), (0, 2), (1, 3), (2, 3)))
        check_told(self, True, are_puts, web=web, more=0, thing=((0, 3), (1, 2)))
        web = (5, ((0, 1), (0, 2), (0, 3), (1, 4), (2, 3), (2, 4)))
        self.assertEqual(right_puts(web, 0), [(0, 4), (1, 2)])
        check_told(self, False, are_puts, web=web, more=0, thing=((3, 4),))
        check_told(self, True, are_puts, web=web, more=0, thing=((0, 4), (3, 4)))
        check_told(self, False, are_puts, web=web, more=0, thing=((3, 4), (0, 4)))
        check_told(self, False, are_puts, web=web, more=1, thing=((0, 4), (3, 4)))

    def test_twice_a_pair_and_ties(self):
        web = (5, tuple(tie for tie in every_pair(5) if tie not in ((0, 1), (2, 3))))
        check_told(self, True, are_puts, web=web, more=1, thing=((0, 1),))
        check_told(self, True, are_puts, web=web, more=0, thing=((2, 3), (0, 1)))
        check_told(self, False, are_puts, web=web, more=0, thing=((0, 1), (0, 1)))
        check_told(self, False, are_puts, web=web, more=0, thing=((0, 1), (2, 3), (0, 1)))
        check_told(self, False, are_puts, web=web, more=0, thing=((0, 2),))
        check_told(self, False, are_puts, web=web, more=2, thing=((0, 1),))

    def test_the_form_of_a_pair(self):
        web = (6, tuple(tie for tie in every_pair(6) if tie not in ((0, 1), (2, 3), (4, 5))))
        for wrong in ([2, 3], (3, 2), (2,), (2, 3, 4), (), 2, None, True, "23", {2: 3}, ("2", "3"), (2, None),
                      (2, (3,)), ((2, 3),), (2, 2), (2, 6), (-1, 2), (2, GREAT), (-GREAT, 2), (2, [3]), (2, {}),
                      (0, True), (False, 1), (False, True), nested(29), nested(29, tuple)):
            for row in ((wrong,), ((0, 1), wrong), (wrong, (4, 5)), ((4, 5), wrong)):
                check_told(self, False, are_puts, web=web, more=0, thing=row)
        check_told(self, True, are_puts, web=web, more=0, thing=((4, 5), (0, 1), (2, 3)))
        for row in ([(4, 5)], [], (4, 5), {}, {(4, 5): 1}):
            check_told(self, False, are_puts, web=web, more=0, thing=row)

    def test_anything(self):
        webs = [(3, ()), all_tied(4), (5, ((0, 2), (0, 3), (0, 4), (1, 2), (1, 3), (1, 4))), (20, ())]
        for web in webs:
            for more in (0, 4):
                for thing in STRANGE:
                    check_told(self, False, are_puts, web=web, more=more, thing=thing)

    def test_a_row_of_more_pairs_than_there_are(self):
        web = (20, tuple(tie for tie in every_pair(20) if tie[0] < 5 or sum(tie) % 3))
        puts = closed(web, 0)[1]
        self.assertGreater(len(puts), 30)
        check_told(self, True, are_puts, web=web, more=0, thing=puts)
        check_told(self, False, are_puts, web=web, more=0, thing=puts * 300)

    def test_web_with(self):
        for web in many_webs():
            check_told(self, web, web_with, web=web, puts=())
            puts = closed(web, 0)[1]
            for size in {0, 1, 2, len(puts) // 2, len(puts)}:
                told = web_with(web, puts[:size])
                check_web(self, told)
                self.assertEqual(told, plus(web, puts[:size]))
                if are_right_puts(web, 0, puts[:size][::-1]):
                    self.assertEqual(web_with(web, puts[:size][::-1]), told)

    def test_web_with_by_names(self):
        web = (5, ((0, 1), (0, 2), (0, 3), (1, 4), (2, 3), (2, 4)))
        right = (5, ((0, 1), (0, 2), (0, 3), (0, 4), (1, 4), (2, 3), (2, 4), (3, 4)))
        check_told(self, right, web_with, web=web, puts=((0, 4), (3, 4)))
        check_told(self, web, web_with, web=web, puts=())


class Closed(unittest.TestCase):

    def check_closed(self, web, more):
        word, (full, puts) = check_call(self, closed, web=web, more=more)
        self.assertEqual(word, "told")
        check_web(self, full)
        self.assertIs(puts.__class__, tuple)
        now = web
        for put in puts:
            check_ints(self, put)
            self.assertEqual(put, right_puts(now, more)[0], (web, more))
            now = plus(now, [put])
        self.assertEqual(full, now)
        self.assertEqual(right_puts(full, more), [])
        return full, puts

    def test_written_out(self):
        web = (5, ((0, 1), (0, 2), (0, 3), (1, 4), (2, 3), (2, 4)))
        puts = ((0, 4), (1, 2), (1, 3), (3, 4))
        check_told(self, (all_tied(5), puts), closed, web=web, more=0)
        check_told(self, (web, ()), closed, web=web, more=1)

    def test_each_time_the_least_put(self):
        for web in many_webs():
            for more in MORE:
                full, puts = self.check_closed(web, more)
                self.assertIs(are_puts(web, more, puts), True)
                self.assertEqual(web_with(web, puts), full)
                self.assertIsNone(put_ahead(full, more))
                self.assertEqual(closed(full, more), (full, ()))

    def test_in_whatever_order_the_same_web(self):
        draw = random.Random(12)
        for web in many_webs():
            for more in (0, 1, 4):
                full = closed(web, more)[0]
                for choose in (lambda puts: puts[-1], draw.choice):
                    now, made = web, []
                    while puts := right_puts(now, more):
                        made.append(choose(puts))
                        now = plus(now, made[-1:])
                    self.assertEqual(now, full)
                    self.assertIs(are_puts(web, more, tuple(made)), True)
                    self.assertEqual(web_with(web, tuple(made)), full)

    def test_a_ring_holds_ties_just_when_one_of_the_closing_does(self):
        for web in [*every_web(4), *list(every_web(5))[::7], *list(mixed_webs(6, 12))[6:]]:
            for held in every_held(web):
                full = closed(web, len(held))[0]
                self.assertEqual(bool(whole_rings(web, held)), bool(whole_rings(full, held)), (web, held))

    def test_nothing_hangs_on_what_was_told(self):
        web = (5, ((0, 1), (0, 2), (0, 3), (1, 4), (2, 3), (2, 4)))
        first = closed(web, 0)
        self.assertEqual(closed(first[0], 0), (all_tied(5), ()))
        self.assertEqual(closed(web, 0), first)

    def test_somewhat_beyond_the_limit_is_no_error(self):
        web = (6, tuple(every_pair(6)[:9]))
        for more in (-2, -1, 5, 6):
            self.check_closed(web, more)
        for many in (2, 21, 23):
            self.check_closed((many, tuple(every_pair(many)[::2])), 0)
            self.check_closed(all_tied(many), 0)


if __name__ == "__main__":
    unittest.main()
