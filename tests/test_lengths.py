"""[23]: rings_of_lengths."""

import random
import time
import unittest

from closedrings.errors import NoRing, TooFew
from closedrings.lengths import rings_of_lengths
from closedrings.rows import even_web
from closedrings.webs import all_tied

from tests.things import (GREAT, STRANGE, check_call, check_ints, check_refused, every_pair, every_web, renumbered,
                          sides, turns_of, whole_rings)


def webs_with_ring(draw, many):
    """Webs with a drawn whole ring and one tie more than a quarter of the square, with many, and with all."""
    fewest = many * many // 4 + 1
    pairs = every_pair(many)
    for size in sorted({fewest, fewest + 1, (fewest + len(pairs)) // 2, len(pairs) - 1, len(pairs)}):
        for at in range(4):
            ring = tuple(draw.sample(range(many), many))
            rest = sorted(set(pairs) - sides(ring))
            if 0 <= size - many <= len(rest):
                yield (many, tuple(sorted(sides(ring) | set(draw.sample(rest, size - many))))), ring


def even_and_one(draw, many):
    """An even web with one tie more, and a whole ring of it: nearly no ring of an odd length."""
    half = many // 2
    ring = tuple(place for at in range(half) for place in (at, at + half))
    for tie in ((0, 1), (half - 2, half - 1), (half, many - 1)):
        if tie[0] != tie[1]:
            yield (many, tuple(sorted({*even_web(many)[1], tie}))), ring
    names = draw.sample(range(many), many)
    web = (many, tuple(sorted({*even_web(many)[1], (0, 1)})))
    yield (many, tuple(sorted(tuple(sorted((names[a], names[b]))) for a, b in web[1]))), tuple(names[at] for at in ring)


def crowded(many):
    """A ring of all places, and as many ties as are needed among its first places: the others have two each."""
    ring = tuple(range(many))
    rest = [pair for pair in sorted(every_pair(many), key=lambda two: two[1]) if pair not in sides(ring)]
    return (many, tuple(sorted(sides(ring) | set(rest[:many * many // 4 + 1 - many])))), ring


class Told(unittest.TestCase):

    def check_rings(self, web, ring):
        many, ties = web
        self.assertGreater(4 * len(ties), many * many)
        told = rings_of_lengths(web, ring)
        self.assertIs(told.__class__, tuple)
        self.assertEqual([len(one) for one in told], list(range(3, many + 1)))
        for one in told:
            check_ints(self, one)
            self.assertEqual(len(set(one)), len(one))
            self.assertTrue(sides(one) <= set(ties), (web, ring, one))

    def test_three_places(self):
        for turn in turns_of((0, 1, 2)):
            self.check_rings(all_tied(3), turn)
            self.assertEqual(len(rings_of_lengths(all_tied(3), turn)), 1)

    def test_every_web_of_four_and_five_places(self):
        found = 0
        for web in [*every_web(4), *every_web(5)]:
            if 4 * len(web[1]) > web[0] * web[0]:
                for ring in whole_rings(web):
                    self.check_rings(web, ring)
                    found += 1
        self.assertGreater(found, 300)

    def test_webs_of_3_to_20_places_and_each_turn(self):
        draw = random.Random(23)
        begun = time.process_time()
        for many in range(3, 21):
            cases = [*webs_with_ring(draw, many)]
            self.assertTrue(cases)
            if many > 4:
                cases.append(crowded(many))
            if many % 2 == 0 and many > 4:
                cases += even_and_one(draw, many)
            for web, ring in cases:
                for turn in list(turns_of(ring))[:: 1 if many < 9 else 3]:
                    self.check_rings(web, turn)
                self.check_rings(web, ring[::-1])
        self.assertLess(time.process_time() - begun, 120)

    def test_the_fewest_ties(self):
        # One tie less is too few, where there is a whole ring at all.
        draw = random.Random(32)
        for many in range(5, 21):
            web, ring = next(webs_with_ring(draw, many))
            self.assertEqual(len(web[1]), many * many // 4 + 1)
            self.check_rings(web, ring)
            gone = next(tie for tie in web[1] if tie not in sides(ring)) if len(web[1]) > many else None
            if gone:
                less = (many, tuple(tie for tie in web[1] if tie != gone))
                check_refused(self, TooFew, rings_of_lengths, web=less, ring=ring)

    def test_by_names_and_again(self):
        draw = random.Random(3)
        for many in range(3, 21, 4):
            for web, ring in webs_with_ring(draw, many):
                word, told = check_call(self, rings_of_lengths, web=web, ring=ring)
                self.assertEqual(word, "told")
                for one in told[-1:]:
                    self.check_rings(web, one)

    def test_renumbered(self):
        draw = random.Random(7)
        for many in (6, 7):
            for web, ring in webs_with_ring(draw, many):
                other = renumbered(draw, web)
                for one in whole_rings(other)[::5]:
                    self.check_rings(other, one)


class Refused(unittest.TestCase):

    def test_no_ring(self):
        web = all_tied(7)
        ring = (0, 1, 2, 3, 4, 5, 6)
        wrong = [ring[1:], ring[:-1], ring + (0,), list(ring), (), ring + (7,), (ring,), (0, 1, 2, 3, 4, 5, 5),
                 (False, 1, 2, 3, 4, 5, 6), (0, True, 2, 3, 4, 5, 6), ring[:-1] + ("6",), ring[:-1] + (None,),
                 ring[:-1] + (GREAT,), ring[:-1] + (-1,), None, "0123456", {0: ring}, ring[:3]]
        for row in wrong + STRANGE:
            check_refused(self, NoRing, rings_of_lengths, web=web, ring=row)
        less = (7, tuple(tie for tie in web[1] if tie != (2, 3)))
        check_refused(self, NoRing, rings_of_lengths, web=less, ring=ring)
        check_refused(self, NoRing, rings_of_lengths, web=less, ring=(2, 0, 1, 4, 5, 6, 3))

    def test_too_few(self):
        for many in range(4, 21):
            ring = tuple(range(many))
            web = (many, tuple(sorted(sides(ring))))
            if 4 * many <= many * many:
                for turn in (ring, ring[::-1], ring[2:] + ring[:2]):
                    check_refused(self, TooFew, rings_of_lengths, web=web, ring=turn)
        for many in range(4, 21, 2):
            # Just a quarter of the square.
            half = many // 2
            ring = tuple(place for at in range(half) for place in (at, at + half))
            check_refused(self, TooFew, rings_of_lengths, web=even_web(many), ring=ring)

    def test_no_ring_comes_before_too_few(self):
        for web in ((4, ()), even_web(6), (20, ((0, 1),)), (9, tuple(sorted(sides(tuple(range(9))))))):
            for row in STRANGE + [(), tuple(range(web[0] - 1)), list(range(web[0])), (0, 1, 2)]:
                check_refused(self, NoRing, rings_of_lengths, web=web, ring=row)


if __name__ == "__main__":
    unittest.main()
