"""[22]: hubbed, way_through."""

import itertools
import unittest

from closedrings.closing import closed
from closedrings.errors import TooGreat
from closedrings.papers import lets_by
from closedrings.rows import even_web, tight_web
from closedrings.walks import is_way
from closedrings.ways import hubbed, way_through
from closedrings.webs import all_tied

from tests.things import (check_call, check_ints, check_refused, check_told, check_web, every_pair, every_web,
                          mixed_webs, right_paper, webs_of_all_sizes)

MOST = (("most", 19),)
MOST_FOR_CASES = (("most", 8),)


def right_hubbed(web):
    many, ties = web
    return many + 1, tuple(sorted(set(ties) | {(place, many) for place in range(many)}))


def has_whole_way(web):
    """By a look at all rows of the places."""
    many, ties = web
    return any(all((min(two), max(two)) in ties for two in zip(row, row[1:]))
               for row in itertools.permutations(range(many)))


def line_of(row):
    """The web whose ties are those along a row of all its places."""
    return len(row), tuple(sorted((min(two), max(two)) for two in zip(row, row[1:])))


class Hubbed(unittest.TestCase):

    def test_written_out(self):
        check_told(self, (4, ((0, 1), (0, 3), (1, 3), (2, 3))), hubbed, web=(3, ((0, 1),)))

    def test_webs_of_3_to_19_places(self):
        webs = [web for web in webs_of_all_sizes() if web[0] < 20]
        for web in [*every_web(3), *every_web(4), *webs, *mixed_webs(19, 6)]:
            check_told(self, right_hubbed(web), hubbed, web=web)
            check_web(self, hubbed(web))
        self.assertEqual(hubbed(all_tied(19)), all_tied(20))

    def test_twenty_places_are_too_great(self):
        for web in [(20, ()), all_tied(20), even_web(20), *mixed_webs(20, 5)]:
            check_refused(self, TooGreat, hubbed, fields=MOST, web=web)
            check_refused(self, TooGreat, way_through, fields=MOST, web=web)
        check_refused(self, TooGreat, hubbed, fields=MOST, web=all_tied(21))


class WayThrough(unittest.TestCase):

    def check_told_way(self, web):
        told = way_through(web)
        self.assertIs(told.__class__, tuple)
        word, answer = told
        self.assertIn(word, ("way", "none"))
        if word == "way":
            check_ints(self, answer)
            self.assertEqual(sorted(answer), list(range(web[0])))
            self.assertIs(is_way(web, answer), True)
        else:
            self.assertTrue(right_paper(right_hubbed(web), (), answer))
            self.assertIs(lets_by(hubbed(web), (), answer), True)
        return word

    def test_every_web_of_few_places(self):
        words = []
        for web in [*every_web(3), *every_web(4), *every_web(5)]:
            word = self.check_told_way(web)
            self.assertEqual(word, "way" if has_whole_way(web) else "none", web)
            words.append(word)
        self.assertGreater(min(words.count("way"), words.count("none")), 200)

    def test_six_and_seven_places(self):
        words = []
        for web in [*mixed_webs(6, 80), *mixed_webs(7, 30), tight_web(7, 1), tight_web(7, 2), tight_web(7, 3),
                    line_of((3, 0, 5, 1, 6, 2, 4)), line_of((2, 5, 0, 4, 1, 3)), even_web(6)]:
            word = self.check_told_way(web)
            self.assertEqual(word, "way" if has_whole_way(web) else "none", web)
            words.append(word)
        self.assertGreater(min(words.count("way"), words.count("none")), 20)

    def test_eight_and_more_places(self):
        seen = set()
        for many in range(8, 20):
            star = (many, tuple((0, place) for place in range(1, many)))
            webs = [(many, ()), star, all_tied(many), tight_web(many, 1), line_of(tuple(range(many)))]
            for web in webs + list(mixed_webs(many, 10)):
                if closed(right_hubbed(web), 0)[0] == all_tied(many + 1):
                    self.assertEqual(self.check_told_way(web), "way")
                    seen.add((many, "way"))
                else:
                    check_refused(self, TooGreat, way_through, fields=MOST_FOR_CASES, web=web)
                    seen.add((many, "too great"))
        self.assertEqual(seen, {(many, word) for many in range(8, 20) for word in ("way", "too great")})

    def test_a_way_where_there_is_no_whole_ring(self):
        # Two lots of places with all ties within, and one place in common: the hub closes the way.
        for many in (5, 7, 12, 19):
            half = many // 2
            web = (many, tuple(pair for pair in every_pair(many) if pair[1] <= half or pair[0] >= half))
            self.assertNotEqual(closed(web, 0)[0], all_tied(many))
            if many < 8 or closed(right_hubbed(web), 0)[0] == all_tied(many + 1):
                self.assertEqual(self.check_told_way(web), "way")

    def test_by_names_and_again(self):
        for web in [all_tied(3), (3, ()), all_tied(19), tight_web(7, 3), *mixed_webs(7, 8), *mixed_webs(19, 5)]:
            check_call(self, way_through, web=web)

    def test_the_hub_is_at_either_end_or_between(self):
        for row in itertools.permutations(range(5)):
            web = line_of(row)
            word, way = way_through(web)
            self.assertEqual(word, "way")
            self.assertIn(way, (row, row[::-1]))


if __name__ == "__main__":
    unittest.main()
