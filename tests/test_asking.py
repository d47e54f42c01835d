"""[21]: ask; and what [3] says of webs whose closing has all ties."""

import functools
import random
import time
import unittest

from closedrings.asking import ask
from closedrings.closing import closed
from closedrings.errors import NoHeld, TooGreat
from closedrings.rows import even_web, tight_web
from closedrings.webs import all_tied, without_tie

from tests.things import (NEVER_HELD, check_answer, check_call, check_refused, drawn_held, every_held, every_pair,
                          every_web, mixed_webs, renumbered, sides, whole_rings)

MOST = (("most", 8),)


def is_sure(web, held):
    return closed(web, len(held))[0] == all_tied(web[0])


def great_cases():
    """Webs of nine to twenty places with drawn held ties, from none to four."""
    draw = random.Random(21)
    for many in range(9, 21):
        webs = [*list(mixed_webs(many, 12))[4:], all_tied(many), lean_web(many), renumbered(draw, lean_web(many))]
        if many % 2 == 0:
            webs.append(even_web(many))
        for web in webs:
            for size in range(5):
                held = drawn_held(draw, web, size)
                if held is not None:
                    yield web, held


@functools.cache
def lean_web(many):
    """A web with few ties whose closing for 0 has all ties, and for 1 often not."""
    web = all_tied(many)
    for tie in every_pair(many):
        less = without_tie(web, *tie)
        if is_sure(less, ()):
            web = less
    return web


class Few(unittest.TestCase):

    def check(self, web, held, rings):
        right = any(set(held) <= sides(ring) for ring in rings)
        told = ask(web, held)
        check_answer(self, web, held, told)
        self.assertEqual(told[0], "ring" if right else "none", (web, held))

    def test_every_web_of_three_and_four_places(self):
        for web in [*every_web(3), *every_web(4)]:
            for held in every_held(web):
                self.check(web, held, whole_rings(web))

    def test_webs_of_five_places(self):
        for web in list(every_web(5))[::5]:
            rings = whole_rings(web)
            for held in list(every_held(web))[::3]:
                self.check(web, held, rings)
        for web in every_web(5):
            self.check(web, (), whole_rings(web))

    def test_six_to_eight_places(self):
        draw = random.Random(678)
        sure = 0
        webs = [*mixed_webs(6, 60), *mixed_webs(7, 30), *mixed_webs(8, 16), lean_web(7), lean_web(8), even_web(8)]
        for web in webs + [tight_web(8, i) for i in (1, 2, 3)]:
            rings = whole_rings(web)
            for size in range(5):
                held = drawn_held(draw, web, size)
                if held is not None:
                    self.check(web, held, rings)
                    sure += is_sure(web, held)
        self.assertGreater(sure, 50)

    def test_by_names_and_again(self):
        for web in [all_tied(3), (3, ()), tight_web(7, 3), even_web(6), *mixed_webs(6, 9), *mixed_webs(8, 5)]:
            for held in ((), web[1][:1], web[1][-1:]):
                word, told = check_call(self, ask, web=web, held=held)
                self.assertEqual(word, "told")
                check_answer(self, web, held, told)


class Great(unittest.TestCase):

    def test_a_ring_where_the_closing_has_all_ties(self):
        seen = set()
        begun = time.process_time()
        for web, held in great_cases():
            if is_sure(web, held):
                told = ask(web, held)
                self.assertEqual(told[0], "ring")
                check_answer(self, web, held, told)
                seen.add((web[0], len(held)))
        self.assertEqual(seen, {(many, size) for many in range(9, 21) for size in range(5)})
        self.assertLess(time.process_time() - begun, 120)

    def test_too_great_where_it_has_not(self):
        sizes = set()
        for web, held in great_cases():
            if not is_sure(web, held):
                self.assertRaises(TooGreat, ask, web, held)
                sizes.add(len(held))
        self.assertEqual(sizes, set(range(5)))

    def test_for_as_many_as_are_held(self):
        # Without held ties the closing has all ties, with one it has not: the web itself has rings all the same.
        found = 0
        for many in range(9, 21):
            web = lean_web(many)
            check_answer(self, web, (), ask(web, ()))
            for tie in web[1][::7]:
                if not is_sure(web, (tie,)):
                    found += 1
                    check_refused(self, TooGreat, ask, fields=MOST, web=web, held=(tie,))
        self.assertGreater(found, 10)

    def test_held_ties_one_after_another_and_apart(self):
        for many in range(9, 21):
            web = all_tied(many)
            for held in (((0, 1), (1, 2), (2, 3), (3, 4)), ((0, 1), (2, 3), (4, 5), (6, 7)), ((0, 8), (1, 8), (2, 7)),
                         ((0, many - 1),), ((1, 5), (1, 7), (5, 8), (7, 8))[:3], ((0, 1), (0, 2), (3, 4), (3, 5))):
                word, told = check_call(self, ask, web=web, held=held)
                self.assertEqual(told[0], "ring")
                check_answer(self, web, held, told)

    def test_by_names_and_again(self):
        for web, held in list(great_cases())[::11]:
            told = check_call(self, ask, web=web, held=held)
            if is_sure(web, held):
                check_answer(self, web, held, told[1])
            else:
                self.assertEqual(told, ("refused", TooGreat, *MOST))


class Refused(unittest.TestCase):

    def test_no_held(self):
        # Among them a web whose closing has not all ties, of more than 8 places: NoHeld comes first.
        for web in (all_tied(20), all_tied(9), (9, ()), (20, ((0, 1), (1, 2))), (8, ()), all_tied(5), tight_web(12, 3)):
            for held in NEVER_HELD:
                check_refused(self, NoHeld, ask, web=web, held=held)
        check_refused(self, NoHeld, ask, web=(9, ((0, 1), (1, 2))), held=((0, 2),))
        check_refused(self, NoHeld, ask, web=without_tie(all_tied(12), 3, 4), held=((3, 4),))

    def test_too_great(self):
        for many in range(9, 21):
            ring = (many, tuple(sorted(sides(tuple(range(many))))))
            for web in [(many, ()), ring] + [tight_web(many, i) for i in range(1, (many + 1) // 2)]:
                self.assertFalse(is_sure(web, ()))
                for held in ((), web[1][:1]):
                    check_refused(self, TooGreat, ask, fields=MOST, web=web, held=held)

    def test_eight_places_are_not_too_great(self):
        for web in [(8, ()), (8, tuple(sorted(sides(tuple(range(8)))))), tight_web(8, 3)]:
            self.assertFalse(is_sure(web, ()))
            check_answer(self, web, (), ask(web, ()))

    def test_somewhat_beyond_the_limit(self):
        check_answer(self, all_tied(22), ((0, 1),), ask(all_tied(22), ((0, 1),)))
        check_refused(self, TooGreat, ask, fields=MOST, web=(22, ()), held=())


if __name__ == "__main__":
    unittest.main()
