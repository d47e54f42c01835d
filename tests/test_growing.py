"""[17] and [18]: poor_pair, grown; and what [3] says of rich webs."""

import itertools
import random
import unittest

from closedrings.closing import closed
from closedrings.errors import NotRich, NoWay
from closedrings.growing import grown, poor_pair
from closedrings.rows import even_web, tight_web
from closedrings.walks import is_ring, is_way, is_whole_ring
from closedrings.webs import all_tied

from tests.things import (GREAT, STRANGE, check_call, check_ints, check_refused, check_told, every_pair, every_web,
                          mixed_webs, nested, renumbered, webs_of_all_sizes)


def right_poor(web):
    """All pairs without a tie whose counts together are less than the places, rising."""
    many, ties = web
    ends = [place for tie in ties for place in tie]
    return [(a, b) for a, b in every_pair(many)
            if (a, b) not in ties and ends.count(a) + ends.count(b) < many]


def right_steps(web, way):
    """[18] by the letter."""
    many, ties = web

    def tied(a, b):
        return (a, b) in ties or (b, a) in ties

    def from_way(p):
        free = [place for place in range(many) if place not in p]
        for place in free:
            if tied(place, p[-1]):
                return "longer", p + (place,)
        for place in free:
            if tied(place, p[0]):
                return "longer", (place,) + p
        if tied(p[0], p[-1]):
            return "closed", p
        m = len(p)
        for i in range(1, m):
            # p(i) is p[i - 1] here.
            if tied(p[0], p[i]) and tied(p[m - 1], p[i - 1]):
                return "closed", tuple([p[k] for k in range(i)] + [p[k] for k in range(m - 1, i - 1, -1)])
        raise AssertionError(web, p)

    def from_ring(ring):
        for place in range(many):
            if place not in ring and any(tied(place, other) for other in ring):
                joint = min(other for other in ring if tied(place, other))
                row = [place, joint]
                at = ring.index(joint)
                for step in range(1, len(ring)):
                    row.append(ring[(at + step) % len(ring)])
                return "opened", tuple(row)
        raise AssertionError(web, ring)

    steps = [from_way(way)]
    while steps[-1][0] != "closed" or len(steps[-1][1]) < many:
        word, row = steps[-1]
        steps.append(from_ring(row) if word == "closed" else from_way(row))
    return tuple(steps)


def two_halves(many):
    """Two halves with all ties within, each place tied to one of the other half."""
    half = many // 2
    ties = [(a, b) for a, b in every_pair(many) if (a < half) == (b < half)]
    return many, tuple(sorted(ties + [(a, a + half) for a in range(half)]))


def near_bar(many):
    """Half of the places tied to all, and a few ties more, so that it is rich: it is hard to get round."""
    size = (many + 1) // 2
    return many, tuple(pair for pair in every_pair(many) if pair[0] < size)


def made_rich(web):
    """The web with ties put between the poorest pairs till it is rich."""
    many, ties = web
    while pairs := right_poor((many, ties)):
        ends = [place for tie in ties for place in tie]
        pair = min(pairs, key=lambda two: ends.count(two[0]) + ends.count(two[1]))
        ties = tuple(sorted(ties + (pair,)))
    return many, ties


def rich_webs():
    draw = random.Random(18)
    for many in range(3, 21):
        yield all_tied(many)
        yield renumbered(draw, near_bar(many))
        if many % 2 == 0 and many > 3:
            yield even_web(many)
            yield renumbered(draw, even_web(many))
            yield renumbered(draw, two_halves(many))
        for web in mixed_webs(many, 5):
            yield made_rich(web)
            yield renumbered(draw, made_rich(web))


def every_way(web):
    for size in range(1, web[0] + 1):
        for row in itertools.permutations(range(web[0]), size):
            if all((min(two), max(two)) in web[1] for two in zip(row, row[1:])):
                yield row


def drawn_ways(draw, web, amount):
    """Ways that go on from a drawn place as they may, and end somewhere."""
    for at in range(amount):
        row = [draw.randrange(web[0])]
        size = draw.randint(1, web[0])
        while len(row) < size:
            free = [place for place in range(web[0])
                    if place not in row and (min(place, row[-1]), max(place, row[-1])) in web[1]]
            if not free:
                break
            row.append(draw.choice(free))
        yield tuple(row)


class Poor(unittest.TestCase):

    def test_written_out(self):
        # The counts are 2, 2, 1, 1.
        check_told(self, (0, 3), poor_pair, web=(4, ((0, 1), (0, 2), (1, 3))))
        check_told(self, None, poor_pair, web=(4, ((0, 1), (0, 3), (1, 2), (2, 3))))
        check_told(self, (0, 1), poor_pair, web=(3, ()))
        check_told(self, (1, 2), poor_pair, web=(3, ((0, 1), (0, 2))))

    def test_by_a_look_at_all_pairs(self):
        webs = [*every_web(3), *every_web(4), *every_web(5), *webs_of_all_sizes()]
        rich = 0
        for web in webs + [web for many in range(6, 21) for web in mixed_webs(many, 10)]:
            right = (right_poor(web) or [None])[0]
            told = poor_pair(web)
            self.assertEqual(told, right, web)
            rich += told is None
            if told is not None:
                check_ints(self, told)
        self.assertGreater(rich, 50)

    def test_rich_webs(self):
        for web in rich_webs():
            check_told(self, None, poor_pair, web=web)
            self.assertEqual(closed(web, 0)[0], all_tied(web[0]))

    def test_just_enough_and_one_less(self):
        for many in range(4, 21, 2):
            web = even_web(many)
            for gone in (web[1][0], web[1][-1]):
                less = (many, tuple(tie for tie in web[1] if tie != gone))
                check_told(self, right_poor(less)[0], poor_pair, web=less)
            for i in range(1, many // 2):
                check_told(self, right_poor(tight_web(many, i))[0], poor_pair, web=tight_web(many, i))


class Grown(unittest.TestCase):

    def check_grown(self, web, way):
        steps = grown(web, way)
        self.assertEqual(steps, right_steps(web, way), (web, way))
        self.assertIs(steps.__class__, tuple)
        for step in steps:
            self.assertIs(step.__class__, tuple)
            word, row = step
            check_ints(self, row)
            self.assertIs((is_ring if word == "closed" else is_way)(web, row), True)
        self.assertEqual(steps[-1][0], "closed")
        self.assertIs(is_whole_ring(web, (), steps[-1][1]), True)
        return [word for word, row in steps]

    def test_written_out(self):
        web = (4, ((0, 1), (0, 3), (1, 2), (2, 3)))
        right = (("longer", (2, 1)), ("longer", (2, 1, 0)), ("longer", (2, 1, 0, 3)), ("closed", (2, 1, 0, 3)))
        check_told(self, right, grown, web=web, way=(2,))
        check_told(self, right[-1:], grown, web=web, way=(2, 1, 0, 3))
        check_told(self, right[-2:], grown, web=web, way=(2, 1, 0))

    def test_ahead_where_nothing_is_behind(self):
        web = (4, ((0, 1), (0, 2), (0, 3), (1, 2), (1, 3)))
        # Place 3 is tied to 0 and 1 alone.
        check_told(self, (("longer", (2, 0, 1, 3)), ("closed", (2, 0, 3, 1))), grown, web=web, way=(0, 1, 3))

    def test_turned_about_and_opened(self):
        # Places 3, 4 and 5 are tied to 0, 1 and 2 alone: for i = 2 the way is turned about, and 5 is left over.
        web = (6, ((0, 1), (0, 3), (0, 4), (0, 5), (1, 2), (1, 3), (1, 4), (1, 5), (2, 3), (2, 4), (2, 5)))
        right = (("closed", (3, 0, 4, 2, 1)), ("opened", (5, 0, 4, 2, 1, 3)), ("closed", (5, 0, 4, 2, 3, 1)))
        check_told(self, right, grown, web=web, way=(3, 0, 1, 2, 4))
        # The ends 2 and 3 are tied: the ring is the way, and place 4 is tied to 0 and 1.
        web = (5, ((0, 1), (0, 2), (0, 3), (0, 4), (1, 2), (1, 3), (1, 4), (2, 3)))
        right = (("closed", (2, 0, 1, 3)), ("opened", (4, 0, 1, 3, 2)), ("closed", (4, 0, 2, 3, 1)))
        check_told(self, right, grown, web=web, way=(2, 0, 1, 3))

    def test_every_way_of_rich_webs_of_few_places(self):
        words = []
        for web in [*every_web(3), *every_web(4), *every_web(5)]:
            if not right_poor(web):
                for way in every_way(web):
                    words += self.check_grown(web, way)
        for web in list(mixed_webs(6, 30)):
            for way in list(every_way(made_rich(web)))[::7]:
                words += self.check_grown(made_rich(web), way)
        self.assertGreater(words.count("opened"), 100)
        self.assertGreater(words.count("longer"), 1000)

    def test_ways_of_rich_webs_of_3_to_20_places(self):
        draw = random.Random(4)
        words = []
        for web in rich_webs():
            ways = [(0,), (web[0] - 1,), *drawn_ways(draw, web, 12)]
            for way in ways:
                words += self.check_grown(web, way)
        self.assertGreater(words.count("opened"), 20)

    def test_by_names_and_again(self):
        draw = random.Random(9)
        for web in list(rich_webs())[::5]:
            for way in drawn_ways(draw, web, 3):
                check_told(self, right_steps(web, way), grown, web=web, way=way)

    def test_what_was_told_may_be_handed_on(self):
        for web in list(rich_webs())[::7]:
            for word, row in grown(web, (1,)):
                self.check_grown(web, row)

    def test_no_way(self):
        ring = (6, ((0, 1), (0, 3), (0, 5), (1, 2), (1, 4), (2, 3), (2, 5), (3, 4), (4, 5)))
        self.assertIsNone(poor_pair(ring))
        for way in ((), [0], [0, 1], (0, 2), (0, 1, 0), (0, 0), (0, 6), (-1,), (0, -1), (True,), (False,), (0, True),
                    (False, 1), (GREAT,), ("0",), (None,), ((0,),), ((0, 1), (1, 2)), (0, (1,)), (0, [1]), {0: 1},
                    "0", 0, 1, None, True, (0, 1, 2, 3, 4, 5, 0), nested(30, tuple)):
            check_refused(self, NoWay, grown, web=ring, way=way)
        for web in (ring, all_tied(3), all_tied(20)):
            for thing in STRANGE + [()]:
                check_refused(self, NoWay, grown, web=web, way=thing)

    def test_not_rich(self):
        seen = set()
        for web in [*every_web(3), *every_web(4), *webs_of_all_sizes(), *mixed_webs(9, 12), tight_web(20, 9)]:
            if right_poor(web):
                one, other = right_poor(web)[0]
                seen.add((one, other))
                for way in ((0,), (web[0] - 1,), *web[1][:1]):
                    check_refused(self, NotRich, grown, fields=(("one", one), ("other", other)), web=web, way=way)
        self.assertGreater(len(seen), 5)

    def test_no_way_comes_before_not_rich(self):
        for web in ((3, ()), (4, ((0, 1),)), tight_web(9, 4), (20, ())):
            self.assertNotEqual(right_poor(web), [])
            for thing in STRANGE + [(), (web[0],), (0, web[0] - 1, 0), [0]]:
                check_refused(self, NoWay, grown, web=web, way=thing)

    def test_somewhat_beyond_the_limit_is_no_error(self):
        for many in (21, 23):
            self.assertEqual(poor_pair(all_tied(many)), None)
            self.check_grown(all_tied(many), (5, 3))
        check_told(self, (0, 1), poor_pair, web=(2, ()))
        self.assertEqual(check_call(self, poor_pair, web=(21, ())), ("told", (0, 1)))


if __name__ == "__main__":
    unittest.main()
