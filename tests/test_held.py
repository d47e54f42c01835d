"""[8]: is_held, is_whole_ring."""

import itertools
import unittest

from closedrings.walks import is_held, is_whole_ring
from closedrings.webs import all_tied

from tests.things import (STRANGE, check_told, every_held, every_pair, every_ring, every_web, mixed_webs, nested,
                          sides, turns_of, webs_of_all_sizes, whole_rings)


class Held(unittest.TestCase):

    def held(self, web, thing):
        check_told(self, True, is_held, web=web, thing=thing)

    def not_held(self, web, thing):
        check_told(self, False, is_held, web=web, thing=thing)

    def test_none_at_all_are_held(self):
        for web in webs_of_all_sizes():
            self.held(web, ())

    def test_every_choice_of_ties_of_small_webs(self):
        for web in [*every_web(3), *every_web(4), *mixed_webs(5, 8)]:
            right = set(every_held(web))
            for size in range(6):
                for ties in itertools.combinations(web[1], size):
                    self.assertIs(is_held(web, ties), ties in right, (web, ties))

    def test_pairs_that_are_no_ties(self):
        for web in [*every_web(3), *every_web(4)]:
            right = set(every_held(web))
            for size in range(4):
                for pairs in itertools.combinations(every_pair(web[0]), size):
                    self.assertIs(is_held(web, pairs), pairs in right, (web, pairs))

    def test_at_most_four(self):
        web = all_tied(20)
        apart = tuple((place, place + 1) for place in range(0, 20, 2))
        row = tuple((place, place + 1) for place in range(19))
        for ties in (apart, row):
            for size in range(5):
                self.held(web, ties[:size])
                self.held(web, ties[-size:] if size else ())
            for size in range(5, len(ties) + 1):
                self.not_held(web, ties[:size])

    def test_three_at_one_place(self):
        for many in (4, 11, 20):
            web = all_tied(many)
            for place in (0, 1, many - 1):
                at_it = tuple(tie for tie in web[1] if place in tie)
                for ties in itertools.combinations(at_it[:5], 2):
                    self.held(web, ties)
                for ties in itertools.combinations(at_it[:5], 3):
                    self.not_held(web, ties)
        self.not_held(all_tied(8), ((0, 1), (2, 3), (2, 4), (2, 5)))
        self.not_held(all_tied(8), ((0, 5), (1, 5), (2, 5), (3, 4)))
        self.held(all_tied(8), ((0, 5), (1, 5), (2, 4), (3, 4)))

    def test_a_ring_among_them(self):
        web = all_tied(8)
        for places in ((0, 1, 2), (2, 5, 7)):
            ring = tuple(sorted(sides(places)))
            self.not_held(web, ring)
            for other in ((3, 4), (3, 6), (0, 3), (1, 4)):
                if other not in ring:
                    self.not_held(web, tuple(sorted(ring + (other,))))
            for left in range(3):
                self.held(web, ring[:left] + ring[left + 1:])
        for ring in every_ring((0, 2, 3, 6)):
            self.not_held(web, tuple(sorted(sides(ring))))
        # These rings go through all places, and are rings all the same.
        self.not_held(all_tied(3), ((0, 1), (0, 2), (1, 2)))
        self.not_held(all_tied(4), ((0, 1), (0, 3), (1, 2), (2, 3)))

    def test_rising(self):
        web = all_tied(7)
        right = ((0, 1), (2, 3), (2, 5), (4, 6))
        for order in itertools.permutations(right):
            check_told(self, order == right, is_held, web=web, thing=order)
        self.held((20, ((2, 10), (9, 10))), ((2, 10), (9, 10)))
        self.not_held((20, ((2, 10), (9, 10))), ((9, 10), (2, 10)))
        self.not_held(web, ((0, 1), (0, 1)))
        self.not_held(web, ((0, 1), (1, 2), (1, 2)))

    def test_the_form_of_a_tie(self):
        web = all_tied(5)
        for wrong in ([1, 2], (2, 1), (1,), (1, 2, 3), (), 1, None, True, "12", {1: 2}, (True, 2), (1, True),
                      (1, None), ("1", "2"), (1, (2,)), ((1, 2),), (1, 1), (1, 5), (-1, 1), (1, [2]), nested(29)):
            self.not_held(web, (wrong,))
            self.not_held(web, ((0, 1), wrong))
            self.not_held(web, (wrong, (3, 4)))
        self.held(web, ((1, 2),))
        self.not_held(web, [(1, 2)])
        self.not_held(web, [])
        self.not_held(web, (1, 2))
        self.not_held(web, ((False, True),))
        self.not_held(web, ((False, 1),))

    def test_anything(self):
        for web in ((3, ()), all_tied(3), all_tied(6), (20, ((0, 1), (1, 2))), all_tied(20)):
            for thing in STRANGE:
                self.not_held(web, thing)


class WholeRings(unittest.TestCase):

    def test_every_ring_of_small_webs(self):
        for web in [*every_web(3), *every_web(4), *mixed_webs(5, 6)]:
            rows = [row for size in (web[0] - 1, web[0]) for row in itertools.permutations(range(web[0]), size)]
            for held in every_held(web):
                right = {turn for ring in whole_rings(web, held) for turn in turns_of(ring)}
                for row in rows:
                    self.assertIs(is_whole_ring(web, held, row), row in right, (web, held, row))

    def test_great_rings(self):
        for many in range(6, 21):
            ring = tuple(range(0, many, 2)) + tuple(range(1, many, 2))
            ties = tuple(sorted(sides(ring)))
            for web in ((many, ties), all_tied(many)):
                for held in ((), ties[:1], ties[-1:], ties[1:5], ties[::many // 3]):
                    for turn in turns_of(ring):
                        self.assertIs(is_whole_ring(web, held, turn), True)
                    check_told(self, True, is_whole_ring, web=web, held=held, thing=ring)
                    check_told(self, False, is_whole_ring, web=web, held=held, thing=ring[1:])
                    check_told(self, False, is_whole_ring, web=web, held=held, thing=list(ring))
                    check_told(self, False, is_whole_ring, web=web, held=held, thing=ring + ring[:1])
            for left in range(len(ties)):
                self.assertIs(is_whole_ring((many, ties[:left] + ties[left + 1:]), (), ring), False)

    def test_a_held_tie_that_is_not_on_it(self):
        web = all_tied(6)
        ring = (0, 1, 2, 3, 4, 5)
        for held in every_held(web):
            right = set(held) <= {(0, 1), (1, 2), (2, 3), (3, 4), (4, 5), (0, 5)}
            self.assertIs(is_whole_ring(web, held, ring), right, held)
        check_told(self, False, is_whole_ring, web=web, held=((0, 2),), thing=ring)
        check_told(self, False, is_whole_ring, web=web, held=((0, 1), (0, 2)), thing=ring)
        check_told(self, True, is_whole_ring, web=web, held=((0, 1), (0, 5), (3, 4)), thing=ring)

    def test_a_ring_through_some_places_is_not_whole(self):
        web = all_tied(6)
        for size in (3, 4, 5):
            check_told(self, False, is_whole_ring, web=web, held=((0, 1),), thing=tuple(range(size)))

    def test_truths_for_places(self):
        for ring in ((False, True, 2), (0, True, 2), (False, 1, 2), (2, 1, False)):
            check_told(self, False, is_whole_ring, web=all_tied(3), held=(), thing=ring)
        check_told(self, True, is_whole_ring, web=all_tied(3), held=((0, 1),), thing=(2, 1, 0))

    def test_anything(self):
        for web in (all_tied(3), all_tied(4), all_tied(20)):
            for held in ((), ((0, 1),), ((0, 1), (1, 2))):
                for thing in STRANGE + [()]:
                    check_told(self, False, is_whole_ring, web=web, held=held, thing=thing)


if __name__ == "__main__":
    unittest.main()
