"""[15] and [16]: row_of, row_fault, tight_web, even_web; and what [3] says of them."""

import itertools
import random
import unittest

from closedrings.closing import closed
from closedrings.errors import NoNumber, NoRow
from closedrings.lots import is_bar
from closedrings.rows import even_web, row_fault, row_of, tight_web
from closedrings.webs import all_tied

from tests.things import (GREAT, GREAT_INTS, STRANGE, check_ints, check_refused, check_told, check_web, every_pair,
                          every_ring, every_web, mixed_webs, nested, sides, webs_of_all_sizes, whole_rings)


def right_faults(row):
    """All faults of a row by the letter of [15], d1, .., dn counted from 1 as there."""
    n = len(row)
    d = dict(enumerate(row, start=1))
    return [i for i in range(1, n) if 2 * i < n and d[i] <= i and d[n - i] < n - i]


def every_row(n):
    return itertools.combinations_with_replacement(range(n), n)


def drawn_rows(n, amount):
    draw = random.Random(n)
    for at in range(amount):
        low = draw.randrange(n)
        yield tuple(sorted(draw.randint(draw.choice((0, low)), n - 1) for place in range(n)))


class RowOf(unittest.TestCase):

    def test_written_out(self):
        check_told(self, (1, 2, 2, 3), row_of, web=(4, ((0, 1), (0, 2), (1, 2), (1, 3))))
        check_told(self, (0, 0, 0), row_of, web=(3, ()))
        check_told(self, (19,) * 20, row_of, web=all_tied(20))

    def test_by_a_look_at_the_counts(self):
        webs = [*every_web(3), *every_web(4), *webs_of_all_sizes()]
        for web in webs + [web for many in range(5, 21) for web in mixed_webs(many, 5)]:
            ends = [place for tie in web[1] for place in tie]
            told = row_of(web)
            self.assertEqual(told, tuple(sorted(ends.count(place) for place in range(web[0]))))
            check_ints(self, told)
            self.assertIn(row_fault(told), (right_faults(told) or [None])[:1])


class Faults(unittest.TestCase):

    def test_written_out(self):
        check_told(self, None, row_fault, thing=(2, 2, 2))
        check_told(self, 1, row_fault, thing=(0, 0, 0))
        check_told(self, 1, row_fault, thing=(1, 1, 2))
        check_told(self, None, row_fault, thing=(1, 2, 2))
        # d1 is 1, but d3 is not below 3.
        check_told(self, None, row_fault, thing=(1, 1, 3, 3))
        check_told(self, 2, row_fault, thing=(2, 2, 2, 4, 4))
        # d2 is 2, but d3 is not below 3.
        check_told(self, None, row_fault, thing=(2, 2, 3, 3, 4))
        # Both 1 and 2 are faults.
        check_told(self, 1, row_fault, thing=(1, 2, 2, 3, 4))
        # Twice the fault is below the number of ints: 2 is none of four.
        check_told(self, None, row_fault, thing=(2, 2, 2, 2))

    def test_every_row_of_few_ints(self):
        least = set()
        for n in range(3, 9):
            for row in every_row(n):
                right = (right_faults(row) or [None])[0]
                told = row_fault(row)
                self.assertEqual(told, right, row)
                self.assertIn(told.__class__, (int, None.__class__))
                least.add(told)
        self.assertEqual(least, {None, 1, 2, 3})

    def test_rows_of_up_to_twenty_ints(self):
        least = set()
        for n in range(9, 21):
            rows = [*drawn_rows(n, 150), (0,) * n, (n - 1,) * n, tuple(range(n))]
            rows += [row_of(tight_web(n, i)) for i in range(1, (n + 1) // 2)]
            for row in rows:
                check_told(self, (right_faults(row) or [None])[0], row_fault, thing=row)
                least.add(row_fault(row))
        self.assertEqual(least, {None, *range(1, 10)})

    def test_where_there_is_no_fault_the_closing_has_all_ties(self):
        found = 0
        webs = [*every_web(4), *every_web(5), *mixed_webs(6, 300)]
        for web in webs + [web for many in range(7, 21) for web in mixed_webs(many, 20)]:
            if row_fault(row_of(web)) is None:
                found += 1
                self.assertEqual(closed(web, 0)[0], all_tied(web[0]), web)
        self.assertGreater(found, 200)

    def test_what_is_no_row(self):
        right = (1, 2, 2, 3)
        self.assertEqual(row_fault(right), 1)
        for wrong in (list(right), (2, 1, 2, 3), (1, 2, 3, 2), (-1, 2, 2, 3), (1, 2, 2, 4), (1, 2, 2, GREAT),
                      (-GREAT, 2, 2, 3), (True, 2, 2, 3), (False, 1, 2, 3), (0, True, 2, 3), (1, 2, 2, None),
                      ("1", "2", "2", "3"), (1, 2, 2, "3"), "1223", (1, 2, 2, (3,)), ((1, 2, 2, 3),), (right, right),
                      (1, 2, 2, [3]), {1: 2, 2: 3}, {0: right}, right[0], None, True, (), (0,), (0, 0), (0, 1), (1, 1),
                      (0,) * 21, (20,) * 21, tuple(range(21)), (0,) * 22, [0] * 20, (3, 3, 3), (0, 0, 3), (20,) * 20,
                      (False,) * 3, (True,) * 3, (None,) * 5, (nested(29, tuple),) * 3, ((),) * 4):
            check_refused(self, NoRow, row_fault, thing=wrong)

    def test_anything(self):
        for thing in STRANGE + [()]:
            check_refused(self, NoRow, row_fault, thing=thing)


class Tight(unittest.TestCase):

    def numbers(self):
        return [(many, i) for many in range(3, 21) for i in range(1, many) if 2 * i < many]

    def test_written_out(self):
        check_told(self, (3, ((0, 1), (0, 2))), tight_web, many=3, i=1)
        check_told(self, (5, ((0, 1), (0, 2), (0, 3), (0, 4), (2, 3), (2, 4), (3, 4))), tight_web, many=5, i=1)
        check_told(self, (5, ((0, 1), (0, 2), (0, 3), (0, 4), (1, 2), (1, 3), (1, 4))), tight_web, many=5, i=2)

    def test_the_ties(self):
        for many, i in self.numbers():
            first, next_ones, rest = range(i), range(i, 2 * i), range(2 * i, many)
            right = {(a, b) for a, b in every_pair(many) if a in first or (a in rest and b in rest)}
            right |= {(a, b) for a in first for b in next_ones}
            self.assertFalse([pair for pair in right if set(pair) & set(next_ones) and not set(pair) & set(first)])
            check_told(self, (many, tuple(sorted(right))), tight_web, many=many, i=i)
            check_web(self, tight_web(many, i))

    def test_the_least_fault_and_the_bar(self):
        for many, i in self.numbers():
            web = tight_web(many, i)
            self.assertEqual(right_faults(row_of(web))[0], i)
            self.assertEqual(row_fault(row_of(web)), i)
            self.assertIs(is_bar(web, tuple(range(i))), True)
            self.assertNotEqual(closed(web, 0)[0], all_tied(many))
            if many < 8:
                self.assertEqual(whole_rings(web), [])

    def test_no_row_with_the_fault_goes_above(self):
        for many in range(3, 8):
            for row in every_row(many):
                for i in right_faults(row):
                    top = row_of(tight_web(many, i))
                    self.assertTrue(all(one <= other for one, other in zip(row, top)), (row, i))
        for many in range(8, 21):
            for row in drawn_rows(many, 100):
                for i in right_faults(row):
                    top = row_of(tight_web(many, i))
                    self.assertTrue(all(one <= other for one, other in zip(row, top)), (row, i))

    def test_other_numbers(self):
        right = self.numbers()
        for many in range(-2, 25):
            for i in range(-2, 14):
                if (many, i) not in right:
                    check_refused(self, NoNumber, tight_web, many=many, i=i)
        for number in GREAT_INTS:
            check_refused(self, NoNumber, tight_web, many=number, i=1)
            check_refused(self, NoNumber, tight_web, many=20, i=number)
            check_refused(self, NoNumber, tight_web, many=number, i=number)


class Even(unittest.TestCase):

    def test_written_out(self):
        check_told(self, (4, ((0, 2), (0, 3), (1, 2), (1, 3))), even_web, many=4)

    def test_the_ties(self):
        for many in range(4, 21, 2):
            half = many // 2
            right = tuple(pair for pair in every_pair(many) if pair[0] < half <= pair[1])
            check_told(self, (many, right), even_web, many=many)
            check_web(self, even_web(many))
            self.assertEqual(4 * len(right), many * many)

    def test_whole_rings_and_none_of_an_odd_length(self):
        for many in (4, 6, 8):
            web = even_web(many)
            self.assertNotEqual(whole_rings(web), [])
            for size in range(3, many, 2):
                for places in itertools.combinations(range(many), size):
                    for ring in every_ring(places):
                        self.assertFalse(sides(ring) <= set(web[1]))

    def test_other_numbers(self):
        for number in [*range(-4, 4), *range(5, 20, 2), *range(21, 31), *GREAT_INTS]:
            check_refused(self, NoNumber, even_web, many=number)


if __name__ == "__main__":
    unittest.main()
