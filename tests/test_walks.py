"""[7]: is_way, is_ring, ring_ties, told_ring."""

import itertools
import unittest

from closedrings.walks import is_ring, is_way, ring_ties, told_ring
from closedrings.webs import all_tied

from tests.things import (GREAT, STRANGE, check_ints, check_told, every_ring, every_web, mixed_webs, sides, turns_of,
                          webs_of_all_sizes)


def are_steps(web, rows):
    return all((min(pair), max(pair)) in web[1] for pair in rows)


def right_way(web, row):
    """[7] by the letter, for a tuple of any ints."""
    unlike = len(set(row)) == len(row) and all(0 <= place < web[0] for place in row)
    return len(row) >= 1 and unlike and are_steps(web, zip(row, row[1:]))


def right_ring(web, row):
    return len(row) >= 3 and right_way(web, row) and are_steps(web, [(row[-1], row[0])])


def check_both(test, web, row):
    for function, right in ((is_way, right_way(web, row)), (is_ring, right_ring(web, row))):
        test.assertIs(function(web, row), right, (function, web, row))


class WaysAndRings(unittest.TestCase):

    def test_written_out(self):
        web = (5, ((0, 1), (0, 2), (1, 2), (2, 3)))
        for way in ((0,), (4,), (0, 1), (1, 0), (3, 2, 1, 0), (0, 1, 2, 3), (2, 0, 1), (1, 2, 0)):
            check_told(self, True, is_way, web=web, thing=way)
        for row in ((), (0, 4), (3, 4), (0, 1, 3), (0, 0), (0, 1, 0), (0, 1, 2, 0), (5,), (-1,), (3, 2, 5)):
            check_told(self, False, is_way, web=web, thing=row)
        for ring in turns_of((0, 1, 2)):
            check_told(self, True, is_ring, web=web, thing=ring)
        for row in ((), (0,), (0, 1), (1, 0), (0, 1, 2, 3), (3, 2, 1), (1, 2, 3), (0, 1, 2, 0), (0, 1, 2, 2),
                    (0, 1, 1), (0, 1, 2, 0, 1, 2), (0, 1, 5), (-3, 1, 2)):
            check_told(self, False, is_ring, web=web, thing=row)

    def test_all_short_rows_of_small_webs(self):
        for many in (3, 4):
            rows = [row for size in range(5) for row in itertools.product(range(-1, many + 1), repeat=size)]
            for web in every_web(many):
                for row in rows:
                    check_both(self, web, row)

    def test_all_rows_of_five_unlike_places(self):
        for web in mixed_webs(5, 40):
            for size in range(1, 6):
                for row in itertools.permutations(range(5), size):
                    check_both(self, web, row)

    def test_all_sizes(self):
        for web in webs_of_all_sizes():
            many = web[0]
            whole = tuple(range(many))
            turned = whole[::2] + whole[1::2][::-1]
            for row in (whole, turned, whole[1:], whole[:-1], whole[::3], (many - 1, 0), (0, many - 1), (many - 1,),
                        whole + (many,), (many,), (0, many), whole + (0,), whole[1:] + (1,), whole * 2):
                check_both(self, web, row)

    def test_a_ring_may_be_one_of_all_twenty_places(self):
        ties = tuple(sorted(sides(tuple(range(0, 20, 2)) + tuple(range(19, 0, -2)))))
        web = (20, ties)
        ring = tuple(range(0, 20, 2)) + tuple(range(19, 0, -2))
        for row in turns_of(ring):
            check_told(self, True, is_ring, web=web, thing=row)
            check_told(self, True, is_way, web=web, thing=row)
        for tie in ties:
            self.assertIs(is_ring((20, tuple(other for other in ties if other != tie)), ring), False)

    def test_a_list_is_none(self):
        web = all_tied(4)
        for row in ([0], [0, 1], [0, 1, 2], [0, 1, 2, 3], []):
            check_told(self, False, is_way, web=web, thing=row)
            check_told(self, False, is_ring, web=web, thing=row)

    def test_a_truth_or_a_row_in_a_places_stead(self):
        web = all_tied(5)
        for wrong in (True, False, None, "1", "", (), (1,), [1], (0, 1), {}, {1: 1}, GREAT, -GREAT, -1, -5, 5, 6):
            for at in range(4):
                row = [2, 3, 4]
                row.insert(at, wrong)
                check_told(self, False, is_way, web=web, thing=tuple(row))
                check_told(self, False, is_ring, web=web, thing=tuple(row))
            check_told(self, False, is_way, web=web, thing=(wrong,))
        for row in ((0, True), (False, 1, 2), (0, True, 2), (True, False, 2), (0, 1, 2, True), ((0, 1, 2),)):
            check_told(self, False, is_way, web=web, thing=row)
            check_told(self, False, is_ring, web=web, thing=row)

    def test_anything(self):
        for web in ((3, ()), all_tied(3), all_tied(5), (20, ((0, 1), (0, 2), (1, 2))), all_tied(20)):
            for thing in STRANGE + [()]:
                check_told(self, False, is_way, web=web, thing=thing)
                check_told(self, False, is_ring, web=web, thing=thing)


class Rings(unittest.TestCase):

    def check_turns(self, ring):
        told = told_ring(ring)
        self.assertEqual(told[0], min(ring))
        self.assertLess(told[1], told[-1])
        self.assertIn(told, list(turns_of(ring)))
        ties = tuple(sorted(sides(ring)))
        for turn in turns_of(ring):
            check_told(self, told, told_ring, ring=turn)
            check_told(self, ties, ring_ties, ring=turn)
        check_ints(self, told)

    def test_written_out(self):
        self.assertEqual(told_ring((3, 1, 4, 2)), (1, 3, 2, 4))
        self.assertEqual(told_ring((2, 4, 1, 3)), (1, 3, 2, 4))
        self.assertEqual(told_ring((7, 5, 6)), (5, 6, 7))
        self.assertEqual(ring_ties((3, 1, 4, 2)), ((1, 3), (1, 4), (2, 3), (2, 4)))
        self.assertEqual(ring_ties((7, 5, 6)), ((5, 6), (5, 7), (6, 7)))
        self.assertEqual(ring_ties((10, 2, 9)), ((2, 9), (2, 10), (9, 10)))

    def test_every_ring_of_few_places(self):
        for places in ((0, 1, 2), (3, 1, 7), (0, 2, 4, 6), (19, 10, 9, 2), (1, 2, 3, 5, 8)):
            for ring in every_ring(places):
                self.assertEqual(told_ring(ring), ring)
                self.check_turns(ring)

    def test_great_rings(self):
        for many in range(6, 21):
            for step in (3, 7, 11, 13):
                row = sorted(range(many), key=lambda place: (place * step % 23, place))
                self.check_turns(tuple(row))
                self.check_turns(tuple(row[2:]))

    def test_ties_are_pairs_of_ints(self):
        for pair in ring_ties((4, 0, 3, 1)):
            check_ints(self, pair)

    def test_somewhat_beyond_the_limit_is_no_error(self):
        self.assertEqual(told_ring((1, 0)), (0, 1))
        self.assertEqual(told_ring((1,)), (1,))
        self.assertEqual(told_ring(()), ())
        self.assertEqual(ring_ties(()), ())
        self.assertEqual(told_ring(tuple(range(24, -1, -1))), (0,) + tuple(range(1, 25)))
        for row in ((1, 0), (1,)):
            self.assertIsInstance(ring_ties(row), tuple)


if __name__ == "__main__":
    unittest.main()
