"""[20]: by_cases; and what [3] says of eight places and fewer."""

import random
import time
import unittest

from closedrings.cases import by_cases
from closedrings.errors import NoHeld, TooGreat
from closedrings.papers import lets_by
from closedrings.rows import even_web, tight_web
from closedrings.walks import is_whole_ring
from closedrings.webs import all_tied

from tests.things import (NEVER_HELD, check_answer, check_call, check_refused, drawn_held, every_held, every_pair,
                          every_web, mixed_webs, renumbered, sides, whole_rings)

MOST = (("most", 8),)


def two_cliques(many, size):
    """Two lots of places with all ties within, which have one place in common."""
    return many, tuple(pair for pair in every_pair(many) if pair[1] < size or pair[0] >= size - 1)


def hard_webs():
    """Webs of eight places with few and with many ties, among them those that just miss a whole ring."""
    draw = random.Random(8)
    plain = [(8, ()), all_tied(8), even_web(8), (8, tuple(every_pair(7))), (8, tuple(every_pair(7)) + ((6, 7),))]
    plain += [tight_web(8, i) for i in (1, 2, 3)] + [two_cliques(8, size) for size in (3, 4, 5)]
    plain.append((8, tuple((a, b) for a in range(3) for b in range(3, 8))))
    plain.append((8, tuple(sorted(sides(tuple(range(8)))))))
    # The cube, and the cube without a tie.
    cube = tuple((a, a | bit) for a in range(8) for bit in (1, 2, 4) if not a & bit)
    plain += [(8, tuple(sorted(cube))), (8, tuple(sorted(cube))[1:])]
    return plain + [renumbered(draw, web) for web in plain]


class Answers(unittest.TestCase):

    def check(self, web, held, rings):
        """The answer is right, where the whole rings of the web are known."""
        right = any(set(held) <= sides(ring) for ring in rings)
        told = by_cases(web, held)
        check_answer(self, web, held, told)
        self.assertEqual(told[0], "ring" if right else "none", (web, held))
        return told[0]

    def test_three_places(self):
        self.assertEqual(by_cases(all_tied(3), ())[0], "ring")
        self.assertEqual(sorted(by_cases(all_tied(3), ((0, 2),))[1]), [0, 1, 2])
        for web in every_web(3):
            for held in every_held(web):
                self.check(web, held, whole_rings(web))

    def test_every_web_of_four_places(self):
        words = []
        for web in every_web(4):
            rings = whole_rings(web)
            words += [self.check(web, held, rings) for held in every_held(web)]
        self.assertGreater(min(words.count("ring"), words.count("none")), 50)

    def test_every_web_of_five_places(self):
        for web in every_web(5):
            self.check(web, (), whole_rings(web))

    def test_held_ties_of_webs_of_five_places(self):
        words = []
        for web in list(every_web(5))[::5]:
            rings = whole_rings(web)
            words += [self.check(web, held, rings) for held in every_held(web)]
        self.assertGreater(min(words.count("ring"), words.count("none")), 500)

    def test_six_and_seven_places(self):
        draw = random.Random(67)
        words = []
        for web in [*mixed_webs(6, 150), *mixed_webs(7, 60)]:
            rings = whole_rings(web)
            for size in range(5):
                held = drawn_held(draw, web, size)
                if held is not None:
                    words.append(self.check(web, held, rings))
        self.assertGreater(min(words.count("ring"), words.count("none")), 150)

    def test_eight_places(self):
        draw = random.Random(88)
        words = []
        for web in [*mixed_webs(8, 25), *hard_webs()]:
            rings = whole_rings(web)
            for size in range(5):
                held = drawn_held(draw, web, size)
                if held is not None:
                    words.append(self.check(web, held, rings))
        self.assertGreater(min(words.count("ring"), words.count("none")), 40)

    def test_bearable_time(self):
        draw = random.Random(5)
        begun = time.process_time()
        for web in hard_webs() + list(mixed_webs(8, 200)):
            for size in range(5):
                held = drawn_held(draw, web, size)
                if held is not None:
                    word, told = by_cases(web, held)
                    self.assertIs(is_whole_ring(web, held, told) if word == "ring" else lets_by(web, held, told), True)
        self.assertLess(time.process_time() - begun, 60)

    def test_by_names_and_again(self):
        for web in [all_tied(4), (3, ()), tight_web(7, 3), *mixed_webs(6, 10), *hard_webs()]:
            for held in ((), web[1][:1], web[1][-1:]):
                word, told = check_call(self, by_cases, web=web, held=held)
                self.assertEqual(word, "told")
                check_answer(self, web, held, told)


class Refused(unittest.TestCase):

    def test_no_held(self):
        for web in (all_tied(8), (8, ((0, 1), (1, 2))), (3, ())):
            for held in NEVER_HELD:
                check_refused(self, NoHeld, by_cases, web=web, held=held)
        check_refused(self, NoHeld, by_cases, web=(4, ((0, 1), (1, 2))), held=((0, 2),))
        check_refused(self, NoHeld, by_cases, web=all_tied(3), held=((0, 1), (0, 2), (1, 2)))

    def test_too_great(self):
        for many in range(9, 21):
            ring = (many, tuple(sorted(sides(tuple(range(many))))))
            for web in (all_tied(many), (many, ()), ring, tight_web(many, 1)):
                check_refused(self, TooGreat, by_cases, fields=MOST, web=web, held=())
                if web[1]:
                    check_refused(self, TooGreat, by_cases, fields=MOST, web=web, held=web[1][:1])
        self.assertEqual(by_cases(all_tied(8), ())[0], "ring")

    def test_no_held_comes_before_too_great(self):
        for web in (all_tied(9), (9, ((0, 1),)), (20, ()), all_tied(20)):
            for held in NEVER_HELD:
                check_refused(self, NoHeld, by_cases, web=web, held=held)
        check_refused(self, NoHeld, by_cases, web=(9, ((0, 1),)), held=((0, 2),))

    def test_somewhat_beyond_the_limit(self):
        check_refused(self, TooGreat, by_cases, fields=MOST, web=all_tied(21), held=())
        self.assertEqual(by_cases((2, ()), ())[0], "none")


if __name__ == "__main__":
    unittest.main()
