"""[1] and [3]: the whole, from a web's text to a ring of it or a paper, with what each stage tells handed on."""

import random
import unittest

from closedrings.asking import ask
from closedrings.cases import by_cases
from closedrings.closing import are_puts, closed, put_ahead, web_with
from closedrings.desk import Desk
from closedrings.growing import grown, poor_pair
from closedrings.leading import led_back
from closedrings.lengths import rings_of_lengths
from closedrings.lots import is_bar
from closedrings.papers import lets_by
from closedrings.rows import row_fault, row_of, tight_web
from closedrings.texts import read_web, show_web
from closedrings.walks import is_ring, is_whole_ring, ring_ties
from closedrings.ways import hubbed, way_through
from closedrings.webs import all_tied, counts_of, made_web

from tests.things import (check_answer, drawn_held, every_held, every_pair, every_web, mixed_webs, sides, whole_rings)


def text_of(web):
    """The text of a web, written out here."""
    return f"places {web[0]}\n" + "".join(f"tie {a} {b}\n" for a, b in web[1])


def drawn_puts(draw, web, more):
    """Puts in a drawn order till there is none."""
    puts = []
    while put_ahead(web_with(web, tuple(puts)), more) is not None:
        now = web_with(web, tuple(puts))
        counts = counts_of(now)
        puts.append(draw.choice([(a, b) for a, b in every_pair(web[0])
                                 if (a, b) not in now[1] and counts[a] + counts[b] >= web[0] + more]))
    return tuple(puts)


def line_through(many, held):
    """A whole ring of the web with all ties that goes along the held ties."""
    rows = [(place,) for place in range(many)]
    for a, b in held:
        one = next(row for row in rows if a in row)
        other = next(row for row in rows if b in row)
        one = one if one[-1] == a else one[::-1]
        other = other if other[0] == b else other[::-1]
        rows = [row for row in rows if a not in row and b not in row] + [one + other]
    return tuple(place for row in rows for place in row)


class Whole(unittest.TestCase):

    def test_text_to_web_to_closing_to_ring(self):
        draw = random.Random(3)
        full = 0
        for many in range(3, 21):
            for web in [*mixed_webs(many, 14), all_tied(many)]:
                read = read_web(text_of(web))
                self.assertEqual(read, web)
                self.assertEqual(show_web(read), text_of(web))
                held = drawn_held(draw, read, draw.randrange(min(5, len(read[1]) + 1))) or ()
                more = len(held)
                end, puts = closed(read, more)
                if end != all_tied(many):
                    continue
                full += 1
                rings = led_back(read, held, puts, line_through(many, held))
                self.assertEqual(len(rings), len(puts) + 1)
                for at, ring in enumerate(rings):
                    now = web_with(read, puts[:len(puts) - at])
                    self.assertIs(is_whole_ring(now, held, ring), True)
                told = ask(read, held)
                self.assertEqual(told[0], "ring")
                check_answer(self, read, held, told)
        self.assertGreater(full, 80)

    def test_the_closing_in_any_order(self):
        draw = random.Random(33)
        for many in (3, 5, 8, 12, 20):
            for web in mixed_webs(many, 6):
                for more in (0, 2):
                    end = closed(web, more)[0]
                    for again in range(2):
                        puts = drawn_puts(draw, web, more)
                        self.assertIs(are_puts(web, more, puts), True)
                        self.assertEqual(web_with(web, puts), end)

    def test_a_ring_just_when_the_closing_has_one(self):
        for web in [*every_web(4), *list(every_web(5))[::31], *mixed_webs(6, 6)]:
            for held in every_held(web):
                end = closed(web, len(held))[0]
                word = by_cases(web, held)[0]
                self.assertEqual(word, by_cases(end, held)[0])
                self.assertEqual(word, "ring" if whole_rings(web, held) else "none")

    def test_a_ring_or_a_paper_for_eight_places_and_fewer(self):
        draw = random.Random(83)
        for many in range(3, 9):
            for web in mixed_webs(many, 20):
                for size in range(5):
                    held = drawn_held(draw, web, size)
                    if held is not None:
                        for told in (by_cases(web, held), ask(web, held)):
                            check_answer(self, web, held, told)
                        self.assertEqual(by_cases(web, held)[0], ask(web, held)[0])

    def test_rows_without_a_fault_and_tight_webs(self):
        for many in range(3, 21):
            for web in mixed_webs(many, 10):
                fault = row_fault(row_of(web))
                if fault is None:
                    self.assertEqual(ask(web, ())[0], "ring")
                else:
                    tight = tight_web(many, fault)
                    self.assertTrue(all(one <= other for one, other in zip(row_of(web), row_of(tight))))
                    self.assertIs(is_bar(tight, tuple(range(fault))), True)
                    self.assertIs(lets_by(tight, (), ("lot", tuple(range(fault)))), True)

    def test_rich_webs_grow_and_have_rings_of_each_length(self):
        grew = lengths = 0
        for many in range(3, 21):
            for web in [*mixed_webs(many, 12), all_tied(many)]:
                if poor_pair(web) is None:
                    ring = grown(web, (many - 1,))[-1][1]
                    self.assertIs(is_whole_ring(web, (), ring), True)
                    self.assertEqual(ask(web, ())[0], "ring")
                    grew += 1
                    if 4 * len(web[1]) > many * many:
                        for size, one in enumerate(rings_of_lengths(web, ring), start=3):
                            self.assertIs(is_ring(web, one), True)
                            self.assertEqual(len(one), size)
                        lengths += 1
        self.assertGreater(grew, 40)
        self.assertGreater(lengths, 40)

    def test_what_is_told_is_handed_on(self):
        for web in [*mixed_webs(7, 10), all_tied(7)]:
            word, told = ask(web, ())
            if word == "ring":
                held = ring_ties(told)[:4]
                check_answer(self, web, held, ask(web, held))
                self.assertEqual(way_through(web)[0], "way")
                self.assertEqual(sides(told), set(ring_ties(told)))
            else:
                self.assertIs(lets_by(web, (), told), True)
                self.assertIs(lets_by(all_tied(7), (), told), False)
            word, told = way_through(web)
            if word == "none":
                self.assertIs(lets_by(hubbed(web), (), told), True)
            desk = Desk(7)
            for a, b in web[1]:
                desk.put(a, b)
            self.assertEqual(read_web(show_web(desk.web())), web)
            self.assertEqual(made_web(*desk.web()), web)
            check_answer(self, web, (), desk.ring(()))


if __name__ == "__main__":
    unittest.main()
