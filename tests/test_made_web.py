"""[4]: made_web, and what it refuses."""

import itertools
import unittest

from closedrings.errors import NoWeb
from closedrings.webs import made_web

from tests.things import (GREAT, GREAT_INTS, NO_INTS, check_call, check_refused, check_web, every_pair, every_web,
                          nested, some_ties)


class MadeWeb(unittest.TestCase):

    def made(self, many, ties):
        word, web = check_call(self, made_web, many=many, ties=ties)
        self.assertEqual(word, "told", web)
        check_web(self, web)
        return web

    def refused(self, many, ties):
        check_refused(self, NoWeb, made_web, many=many, ties=ties)

    def test_every_web_of_few_places(self):
        for many in (3, 4):
            for web in every_web(many):
                self.assertEqual(self.made(many, web[1]), web)
                self.assertEqual(self.made(many, [[b, a] for a, b in reversed(web[1])]), web)

    def test_all_sizes_with_no_few_and_all_ties(self):
        for many in range(3, 21):
            for ties in ((), some_ties(many, 5), some_ties(many, 2), tuple(every_pair(many))):
                turned = [(b, a) if at % 2 else [a, b] for at, (a, b) in enumerate(ties)]
                mixed = turned[1::2] + turned[::-2] if len(turned) % 2 else turned[::2] + turned[::-2]
                self.assertEqual(sorted(map(sorted, mixed)), sorted(map(list, ties)))
                for told in (ties, list(ties), turned, tuple(turned), mixed, tuple(mixed), tuple(ties[::-1])):
                    self.assertEqual(self.made(many, told), (many, ties))

    def test_every_order_of_few_ties(self):
        ties = [(0, 3), [2, 1], (4, 0), [1, 3]]
        for order in itertools.permutations(ties):
            self.assertEqual(self.made(5, list(order)), (5, ((0, 3), (0, 4), (1, 2), (1, 3))))

    def test_ties_come_in_the_order_of_ints(self):
        self.assertEqual(self.made(20, [(10, 2), (19, 3), (2, 9), (0, 11)]),
                         (20, ((0, 11), (2, 9), (2, 10), (3, 19))))

    def test_no_number_of_places(self):
        for many in NO_INTS + GREAT_INTS + [2, 1, 0]:
            for ties in ([], (), [(0, 1)]):
                self.refused(many, ties)

    def test_ties_that_are_no_list_or_tuple(self):
        kinds = [None, True, False, "", "01", "tie 0 1\n", {}, {0: 1}, {(0, 1): 2}, 0, 1, 3, GREAT, -GREAT]
        for ties in kinds:
            for many in (3, 20, 2, 21, None):
                self.refused(many, ties)

    def test_a_pair_that_is_none_at_any_place(self):
        many = 4
        wrong = [0, 1, GREAT, None, True, "", "01", "a", {}, {0: 1}, {0: 1, 1: 2}, {0, 1}, [], (), [0], (3,),
                 (0, 1, 2), [0, 1, 2], [0, 1, 0], [[0, 1]], ((0, 1),), [[0], [1]], ((0,), 1), (0, (1,)), [0, [1]],
                 (0, 0), [3, 3], (0, 4), [4, 0], (4, 5), (-1, 0), [0, -1], (-1, -2), (1, GREAT), (-GREAT, 1),
                 (True, 0), (0, True), [False, 1], [1, False], (True, False), (True, 2), [2, True], (True, 1),
                 ("0", "1"), ("0", 1), [0, "1"], (None, 1), [0, None], (None, None), ({}, 1), (0, {}),
                 nested(29), nested(29, tuple), ("a" * 1000, 0), (0,) * 99_990]
        right = [(0, 2), [3, 1], (1, 2)]
        for pair in wrong:
            for at in range(len(right) + 1):
                ties = right[:at] + [pair] + right[at:]
                self.refused(many, ties)
                self.refused(many, tuple(ties))

    def test_a_place_out_of_range_for_each_size(self):
        for many in range(3, 21):
            self.assertEqual(self.made(many, [(many - 1, 0)]), (many, ((0, many - 1),)))
            for pair in ((0, many), (many, 0), (-1, 0), (0, -1), (many - 1, many), (0, -many)):
                self.refused(many, [pair])

    def test_everything_else_in_place_of_a_place(self):
        for thing in NO_INTS + GREAT_INTS:
            self.refused(5, [(thing, 2)])
            self.refused(5, [[2, thing]])

    def test_two_pairs_of_the_same_places(self):
        for many in (3, 11, 20):
            for a, b in every_pair(many):
                for second in ((a, b), (b, a), [a, b], [b, a]):
                    self.refused(many, [(a, b), second])
                    self.refused(many, ((b, a), second))
        self.refused(5, [(0, 1), (2, 3), (1, 4), (3, 2)])
        self.refused(20, every_pair(20) + [(7, 3)])
        self.refused(20, [(0, 1)] * 30_000)

    def test_nothing_hangs_on_the_list(self):
        first, second = [2, 0], [1, 2]
        ties = [first, second]
        web = made_web(4, ties)
        self.assertEqual(web, (4, ((0, 2), (1, 2))))
        self.assertEqual((ties, first, second), ([[2, 0], [1, 2]], [2, 0], [1, 2]))
        first[0] = 3
        ties.append((0, 1))
        second.clear()
        self.assertEqual(web, (4, ((0, 2), (1, 2))))
        self.assertEqual(made_web(4, [[2, 0], [1, 2]]), web)

    def test_a_refusal_changes_nothing(self):
        self.refused(4, [(0, 1), (1, 0)])
        self.assertEqual(self.made(4, [(0, 1)]), (4, ((0, 1),)))


if __name__ == "__main__":
    unittest.main()
