"""[24] and [25]: desks."""

import copy
import random
import unittest

from closedrings.asking import ask
from closedrings.closing import closed
from closedrings.desk import Desk
from closedrings.errors import NoHeld, NothingBack, NoTie, NoWeb, TooGreat
from closedrings.webs import all_tied

from tests.things import (GREAT, GREAT_INTS, NEVER_HELD, NO_INTS, STRANGE, check_answer, check_call, check_refused,
                          check_web, drawn_held, every_pair, outcome)

MOST = (("most", 8),)


def filled(many, ties):
    desk = Desk(many)
    for a, b in ties:
        desk.put(a, b)
    return desk


class Plain:
    """The ties of a desk, kept plainly: a set, and the sets before each deed."""

    def __init__(self, many):
        self.many = many
        self.ties = set()
        self.before = []

    def do(self, ties):
        self.before.append(self.ties)
        self.ties = ties

    def web(self):
        return self.many, tuple(sorted(self.ties))


class Deeds(unittest.TestCase):

    def test_written_out(self):
        desk = Desk(4)
        self.assertEqual(desk.web(), (4, ()))
        self.assertIsNone(desk.put(2, 0))
        self.assertIsNone(desk.put(1, 3))
        self.assertEqual(desk.web(), (4, ((0, 2), (1, 3))))
        self.assertIsNone(desk.take(2, 0))
        self.assertEqual(desk.web(), (4, ((1, 3),)))
        self.assertIsNone(desk.back())
        self.assertEqual(desk.web(), (4, ((0, 2), (1, 3))))
        desk.back()
        self.assertEqual(desk.web(), (4, ((0, 2),)))
        desk.put(0, 1)
        desk.back()
        desk.back()
        self.assertEqual(desk.web(), (4, ()))
        self.assertRaises(NothingBack, desk.back)
        self.assertEqual(desk.web(), (4, ()))

    def test_each_size_begins_without_ties(self):
        for many in range(3, 21):
            for desk in (Desk(many), Desk(many=many)):
                self.assertEqual(desk.web(), (many, ()))
                check_web(self, desk.web())
                self.assertRaises(NothingBack, desk.back)

    def test_no_web(self):
        for thing in NO_INTS + STRANGE + GREAT_INTS + [0, 1, 2, -3, 21, 22]:
            kept = copy.deepcopy(thing)
            if thing.__class__ is int and 3 <= thing <= 20:
                continue
            self.assertRaises(NoWeb, Desk, thing)
            self.assertRaises(NoWeb, Desk, many=thing)
            self.assertEqual(thing, kept)

    def test_drawn_rows_of_deeds(self):
        draw = random.Random(24)
        for many in range(3, 21):
            desk, plain = Desk(many), Plain(many)
            refused = set()
            for step in range(250):
                a, b = draw.randint(-1, many), draw.randint(-1, many)
                word = draw.choice(("put", "put", "put", "take", "take", "back", "back"))
                pair = (min(a, b), max(a, b))
                if word == "back":
                    right = NothingBack if not plain.before else None
                elif word == "put":
                    right = None if pair in every_pair(many) and pair not in plain.ties else NoTie
                else:
                    right = None if pair in plain.ties else NoTie
                call = desk.back if word == "back" else lambda: getattr(desk, word)(a, b)
                if right is None:
                    self.assertIsNone(call())
                    if word == "back":
                        plain.ties = plain.before.pop()
                    else:
                        plain.do(plain.ties | {pair} if word == "put" else plain.ties - {pair})
                else:
                    refused.add((word, right))
                    self.assertRaises(right, call)
                self.assertEqual(desk.web(), plain.web())
            check_web(self, desk.web())
            self.assertIn(("put", NoTie), refused)
            while plain.before:
                self.assertIsNone(desk.back())
                plain.ties = plain.before.pop()
                self.assertEqual(desk.web(), plain.web())
            self.assertEqual(desk.web(), (many, ()))
            self.assertRaises(NothingBack, desk.back)

    def test_the_same_tie_put_and_taken_again(self):
        desk = Desk(3)
        webs = [desk.web()]
        for deed in (desk.put, desk.take, desk.put, desk.take, desk.put):
            deed(0, 1)
            webs.append(desk.web())
        for web in reversed(webs[:-1]):
            desk.back()
            self.assertEqual(desk.web(), web)
        self.assertRaises(NothingBack, desk.back)

    def test_no_tie(self):
        desk = filled(5, [(0, 1), (3, 2)])
        web = desk.web()
        for thing in NO_INTS + GREAT_INTS + STRANGE + [5, -1]:
            if thing.__class__ is int and 0 <= thing < 5:
                continue
            kept = copy.deepcopy(thing)
            for a, b in ((thing, 1), (0, thing), (thing, thing), (thing, None)):
                for deed in (desk.put, desk.take):
                    self.assertRaises(NoTie, deed, a, b)
                    self.assertRaises(NoTie, deed, b=b, a=a)
            self.assertEqual(thing, kept)
        for a, b in ((0, 1), (1, 0), (2, 3), (3, 2), (0, 0), (4, 4)):
            self.assertRaises(NoTie, desk.put, a, b)
        for a, b in ((0, 2), (2, 0), (3, 4), (4, 3), (0, 0), (4, 4)):
            self.assertRaises(NoTie, desk.take, a, b)
        self.assertEqual(desk.web(), web)
        # What was refused is no deed: two puts are taken back.
        desk.back()
        desk.back()
        self.assertEqual(desk.web(), (5, ()))
        self.assertRaises(NothingBack, desk.back)

    def test_by_names(self):
        desk = Desk(many=6)
        self.assertIsNone(desk.put(a=4, b=2))
        self.assertIsNone(desk.put(b=5, a=1))
        self.assertEqual(desk.web(), (6, ((1, 5), (2, 4))))
        self.assertIsNone(desk.take(b=1, a=5))
        self.assertIsNone(desk.take(a=2, b=4))
        self.assertEqual(desk.web(), (6, ()))
        self.assertEqual(desk.ring(held=())[0], "none")

    def test_methods_stand_in_the_class(self):
        for name in ("__init__", "web", "put", "take", "back", "ring"):
            self.assertIn(name, vars(Desk))

    def test_two_desks_have_nothing_in_common(self):
        draw = random.Random(2)
        desks = [Desk(6), Desk(6), Desk(9)]
        plains = [Plain(6), Plain(6), Plain(9)]
        for step in range(300):
            at = draw.randrange(3)
            desk, plain = desks[at], plains[at]
            a, b = pair = draw.choice(every_pair(plain.many))
            if draw.random() < 0.3 and plain.before:
                desk.back()
                plain.ties = plain.before.pop()
            elif pair in plain.ties:
                desk.take(a, b)
                plain.do(plain.ties - {pair})
            else:
                desk.put(a, b)
                plain.do(plain.ties | {pair})
            if step % 5 == 0:
                outcome(lambda: desk.ring(()))
            for one, other in zip(desks, plains):
                self.assertEqual(one.web(), other.web())


class Rings(unittest.TestCase):

    def check_ring(self, desk, held):
        """The answer is as ask's of the desk's web."""
        web = desk.web()
        told = outcome(lambda: desk.ring(held))
        right = outcome(lambda: ask(web, held))
        self.assertEqual(desk.web(), web)
        if right[0] == "refused":
            self.assertEqual(told, right)
            return "refused"
        self.assertEqual(told[1][0], right[1][0])
        check_answer(self, web, held, told[1])
        return told[1][0]

    def check_rows_of_deeds(self, many, seed, steps, start):
        draw = random.Random(f"{many} {seed}")
        pairs = every_pair(many)
        desk = filled(many, draw.sample(pairs, round(start * len(pairs))))
        deeds, words = len(desk.web()[1]), []
        for step in range(steps):
            a, b = pair = draw.choice(pairs)
            if draw.random() < 0.35 and deeds:
                desk.back()
                deeds -= 1
            else:
                (desk.take if pair in desk.web()[1] else desk.put)(a, b)
                deeds += 1
            for size in draw.sample(range(5), 2):
                held = drawn_held(draw, desk.web(), size)
                words.append(self.check_ring(desk, held if held is not None else ()))
        return words

    def test_few_places(self):
        for many in range(3, 9):
            words = []
            for seed, start in enumerate((0, 0.4, 0.6, 0.9)):
                words += self.check_rows_of_deeds(many, seed, 50, start)
            self.assertEqual(set(words), {"ring", "none"}, many)

    def test_many_places(self):
        words = []
        for many in range(9, 21):
            for seed, start in enumerate((0.5, 0.65, 0.8)):
                words += self.check_rows_of_deeds(many, seed, 12, start)
        self.assertEqual(set(words), {"ring", "refused"})
        self.assertGreater(min(words.count("ring"), words.count("refused")), 100)

    def test_a_ring_asked_ahead(self):
        # The ring stays one when other ties are taken out; but of many places it is told while the closing is full.
        desk = filled(9, every_pair(9))
        word, ring = desk.ring(())
        self.assertEqual(word, "ring")
        kept = {tuple(sorted((ring[at - 1], ring[at]))) for at in range(9)}
        words = []
        for a, b in every_pair(9):
            if (a, b) not in kept:
                desk.take(a, b)
                words.append(self.check_ring(desk, ()))
        self.assertEqual(words[0], "ring")
        self.assertEqual(words[-1], "refused")
        self.assertEqual(outcome(lambda: desk.ring(())), ("refused", TooGreat, *MOST))
        self.assertNotEqual(closed(desk.web(), 0)[0], all_tied(9))
        while len(desk.web()[1]) < len(every_pair(9)):
            desk.back()
            self.check_ring(desk, ())
        self.assertEqual(desk.ring(())[0], "ring")

    def test_a_ring_that_loses_a_tie(self):
        for many in (5, 8, 14):
            desk = filled(many, every_pair(many))
            for step in range(many):
                word, ring = desk.ring(())
                desk.take(ring[0], ring[1])
                if self.check_ring(desk, ()) != "ring":
                    break
            while len(desk.web()[1]) < len(every_pair(many)):
                desk.back()
                self.check_ring(desk, desk.web()[1][:1])

    def test_other_held_ties_each_time(self):
        draw = random.Random(25)
        for many in (6, 8, 13, 20):
            desk = filled(many, every_pair(many)[2:])
            for step in range(40):
                held = drawn_held(draw, desk.web(), draw.randrange(5))
                self.check_ring(desk, held)

    def test_no_held(self):
        for many in (5, 8, 9, 20):
            desk = filled(many, every_pair(many)[1:4])
            for held in NEVER_HELD + [((0, 1),)]:
                self.assertEqual(check_call(self, desk.ring, held=held), ("refused", NoHeld))
            self.assertEqual(desk.web(), (many, tuple(every_pair(many)[1:4])))
        desk = filled(6, every_pair(6))
        desk.ring(((0, 1),))
        desk.take(0, 1)
        check_refused(self, NoHeld, desk.ring, held=((0, 1),))
        desk.back()
        self.assertEqual(self.check_ring(desk, ((0, 1),)), "ring")

    def test_too_great(self):
        for many in range(9, 21):
            desk = Desk(many)
            check_refused(self, TooGreat, desk.ring, fields=MOST, held=())
            desk.put(0, 1)
            check_refused(self, TooGreat, desk.ring, fields=MOST, held=((0, 1),))
            check_refused(self, NoHeld, desk.ring, held=((0, GREAT),))
            self.assertEqual(desk.web(), (many, ((0, 1),)))
            desk.back()
            self.assertRaises(NothingBack, desk.back)

    def test_to_ask_is_no_deed(self):
        desk = filled(4, [(0, 1), (1, 2)])
        desk.ring(())
        outcome(lambda: desk.ring(None))
        desk.back()
        self.assertEqual(desk.web(), (4, ((0, 1),)))


if __name__ == "__main__":
    unittest.main()
