"""[4] and [5]: counts_of, beside, all_tied, with_tie, without_tie."""

import unittest

from closedrings.errors import NoTie
from closedrings.webs import all_tied, beside, counts_of, made_web, with_tie, without_tie

from tests.things import (GREAT_INTS, NO_INTS, check_call, check_ints, check_refused, check_web, every_pair,
                          every_web, webs_of_all_sizes)


def small_and_all_sizes():
    for many in (3, 4):
        yield from every_web(many)
    yield from webs_of_all_sizes()


class Counts(unittest.TestCase):

    def told(self, function, **named):
        word, value = check_call(self, function, **named)
        self.assertEqual(word, "told", named)
        return value

    def test_written_out(self):
        web = (5, ((0, 1), (0, 4), (1, 2), (1, 4)))
        self.assertEqual(counts_of(web), (2, 3, 1, 0, 2))
        self.assertEqual([beside(web, place) for place in range(5)], [(1, 4), (0, 2, 4), (1,), (), (0, 1)])

    def test_counts_and_neighbours_by_places(self):
        for web in small_and_all_sizes():
            many, ties = web
            counts = self.told(counts_of, web=web)
            check_ints(self, counts)
            self.assertEqual(len(counts), many)
            for place in range(many):
                near = self.told(beside, web=web, place=place)
                check_ints(self, near)
                right = tuple(p for p in range(many) if (p, place) in ties or (place, p) in ties)
                self.assertEqual(near, right)
                self.assertEqual(counts[place], len(right))

    def test_places_of_two_digits_rise_as_ints(self):
        web = made_web(20, [(10, 2), (10, 9), (10, 19), (10, 11), (10, 0)])
        self.assertEqual(beside(web, 10), (0, 2, 9, 11, 19))

    def test_all_tied_has_every_pair(self):
        for many in range(3, 21):
            web = self.told(all_tied, many=many)
            check_web(self, web)
            self.assertEqual(web, (many, tuple(every_pair(many))))
            self.assertEqual(len(web[1]), many * (many - 1) // 2)
            self.assertEqual(counts_of(web), (many - 1,) * many)

    def test_somewhat_beyond_the_limit_is_no_error(self):
        for many in (0, 1, 2, 21, 25):
            web = self.told(all_tied, many=many)
            self.assertEqual(web, (many, tuple(every_pair(many))))
            self.assertEqual(counts_of(web), (many - 1,) * many)


class Ties(unittest.TestCase):

    def test_with_tie_written_out(self):
        web = (4, ((0, 1), (2, 3)))
        for a, b in ((1, 2), (2, 1)):
            self.assertEqual(with_tie(web, a, b), (4, ((0, 1), (1, 2), (2, 3))))
        self.assertEqual(web, (4, ((0, 1), (2, 3))))

    def test_without_tie_written_out(self):
        web = (4, ((0, 1), (1, 2), (2, 3)))
        for a, b in ((1, 2), (2, 1)):
            self.assertEqual(without_tie(web, a, b), (4, ((0, 1), (2, 3))))
        self.assertEqual(web, (4, ((0, 1), (1, 2), (2, 3))))

    def test_each_leads_back_from_the_other(self):
        for web in small_and_all_sizes():
            many, ties = web
            for pair in every_pair(many):
                there = pair in ties
                change, back = (without_tie, with_tie) if there else (with_tie, without_tie)
                for a, b in (pair, pair[::-1]):
                    changed = change(web, a, b)
                    check_web(self, changed)
                    self.assertEqual(set(changed[1]) ^ set(ties), {pair})
                    self.assertEqual(changed[0], many)
                    self.assertEqual(back(changed, b, a), web)
                    self.assertEqual(back(changed, a, b), web)
                    with self.assertRaises(NoTie):
                        back(web, a, b)

    def test_by_names_and_again(self):
        web = (5, ((0, 1), (1, 4), (2, 3)))
        for function in (with_tie, without_tie):
            for a in range(5):
                for b in range(5):
                    word, told = check_call(self, function, web=web, a=a, b=b)
                    there = (min(a, b), max(a, b)) in web[1]
                    right = a != b and there == (function == without_tie)
                    self.assertEqual(word, "told" if right else "refused", (function, a, b))
                    self.assertTrue(right or told == NoTie)

    def test_wrong_places(self):
        webs = [(4, ()), (4, ((0, 1), (1, 2))), all_tied(4), all_tied(20), (20, ())]
        for web in webs:
            many = web[0]
            wrong = NO_INTS + GREAT_INTS + [many, many + 1, -1, -many]
            for function in (with_tie, without_tie):
                for thing in wrong:
                    for place in (0, 1, many - 1):
                        check_refused(self, NoTie, function, web=web, a=thing, b=place)
                        check_refused(self, NoTie, function, web=web, a=place, b=thing)
                    check_refused(self, NoTie, function, web=web, a=thing, b=thing)

    def test_two_wrong_places_of_unlike_kinds(self):
        for function in (with_tie, without_tie):
            for a, b in ((None, "a"), ([], ()), ({}, 4), (True, False), (False, True), ([0], [1]), ((0, 1), (0, 1))):
                check_refused(self, NoTie, function, web=all_tied(4), a=a, b=b)
                check_refused(self, NoTie, function, web=(4, ()), a=a, b=b)

    def test_twice_a_place(self):
        for many in range(3, 21):
            for place in range(many):
                for web in ((many, ()), all_tied(many)):
                    for function in (with_tie, without_tie):
                        with self.assertRaises(NoTie):
                            function(web, place, place)

    def test_from_no_ties_to_all_and_back(self):
        web = (20, ())
        for a, b in every_pair(20)[::-1]:
            web = with_tie(web, b, a)
        self.assertEqual(web, all_tied(20))
        for a, b in every_pair(20):
            web = without_tie(web, b, a)
        self.assertEqual(web, (20, ()))


if __name__ == "__main__":
    unittest.main()
