"""[9]: pieces, is_bar."""

import itertools
import unittest

from closedrings.lots import is_bar, pieces
from closedrings.webs import all_tied

from tests.things import (GREAT, STRANGE, check_ints, check_told, every_web, mixed_webs, sides, webs_of_all_sizes,
                          whole_rings)


def right_pieces(web, lot):
    """The pieces by joining, for each tie that does not touch the lot, what holds its two places."""
    found = [{place} for place in range(web[0]) if place not in lot]
    for tie in web[1]:
        if not set(tie) & set(lot):
            joined = set().union(*[piece for piece in found if piece & set(tie)])
            found = [piece for piece in found if not piece & set(tie)] + [joined]
    return tuple(sorted(tuple(sorted(piece)) for piece in found))


def every_lot(many):
    return [lot for size in range(1, many + 1) for lot in itertools.combinations(range(many), size)]


def small_webs():
    return [*every_web(3), *every_web(4), *mixed_webs(5, 60), *mixed_webs(7, 10)]


class Pieces(unittest.TestCase):

    def test_written_out(self):
        web = (7, ((0, 3), (1, 3), (1, 5), (2, 6), (3, 4)))
        check_told(self, ((0,), (1, 5), (2, 6), (4,)), pieces, web=web, lot=(3,))
        check_told(self, ((1, 3, 4, 5), (2, 6)), pieces, web=web, lot=(0,))
        check_told(self, ((0,), (2,), (4,), (5,)), pieces, web=web, lot=(1, 3, 6))

    def test_each_piece_of_each_lot(self):
        for web in small_webs():
            for lot in every_lot(web[0]):
                told = pieces(web, lot)
                self.assertEqual(told, right_pieces(web, lot), (web, lot))
                self.assertIs(told.__class__, tuple)
                for piece in told:
                    check_ints(self, piece)

    def test_all_sizes(self):
        for web in webs_of_all_sizes():
            many = web[0]
            whole = tuple(range(many))
            for lot in (whole[:1], whole[-1:], whole[::2], whole[1::2], whole[: many // 2], whole[1:]):
                check_told(self, right_pieces(web, lot), pieces, web=web, lot=lot)

    def test_the_lot_of_all_places_leaves_none(self):
        for web in webs_of_all_sizes():
            check_told(self, (), pieces, web=web, lot=tuple(range(web[0])))

    def test_a_place_without_ties_is_a_piece(self):
        check_told(self, ((0,), (2,)), pieces, web=(3, ()), lot=(1,))
        check_told(self, tuple((place,) for place in range(19)), pieces, web=(20, ()), lot=(19,))

    def test_a_piece_is_found_along_many_ties(self):
        row = (11, 3, 19, 0, 8, 16, 2, 7, 10, 1, 18, 5, 13)
        web = (20, tuple(sorted(sides(row) - {(11, 13)})))
        lot = (4, 6, 9)
        told = (tuple(sorted(row)), (12,), (14,), (15,), (17,))
        check_told(self, told, pieces, web=web, lot=lot)
        self.assertEqual(pieces(web, (8,))[0], (0, 3, 11, 19))
        self.assertEqual(pieces(web, (8,))[1], (1, 2, 5, 7, 10, 13, 16, 18))


class Bars(unittest.TestCase):

    def test_each_lot(self):
        for web in small_webs():
            for lot in every_lot(web[0]):
                right = len(right_pieces(web, lot)) > len(lot)
                self.assertIs(is_bar(web, lot), right, (web, lot))

    def test_as_many_pieces_as_places_is_none(self):
        ring = (6, ((0, 1), (0, 5), (1, 2), (2, 3), (3, 4), (4, 5)))
        check_told(self, False, is_bar, web=ring, thing=(0, 2, 4))
        check_told(self, False, is_bar, web=ring, thing=(0, 3))
        star = (4, ((0, 1), (0, 2), (0, 3)))
        check_told(self, True, is_bar, web=star, thing=(0,))
        check_told(self, False, is_bar, web=star, thing=(0, 1))
        check_told(self, False, is_bar, web=star, thing=(1,))
        check_told(self, False, is_bar, web=star, thing=(0, 1, 2, 3))

    def test_a_web_with_a_bar_has_no_whole_ring(self):
        for web in small_webs():
            if any(is_bar(web, lot) for lot in every_lot(web[0])):
                self.assertEqual(whole_rings(web), [], web)

    def test_great_bars(self):
        for many in range(3, 21):
            for size in range(1, many):
                lot = tuple(range(size))
                web = (many, tuple(tie for tie in all_tied(many)[1] if tie[0] < size))
                check_told(self, many - size > size, is_bar, web=web, thing=lot)
                check_told(self, False, is_bar, web=web, thing=list(lot))
                check_told(self, False, is_bar, web=all_tied(many), thing=lot)

    def test_what_is_no_lot(self):
        # Without ties every lot of fewer than half the places is a bar.
        web = (9, ())
        for lot in every_lot(9):
            self.assertIs(is_bar(web, lot), len(lot) < 5)
        for thing in ((), [], [0], [0, 1], (1, 0), (0, 0), (0, 1, 1), (2, 3, 1), (9,), (0, 9), (-1,), (-1, 0), (True,),
                      (False,), (False, 1), (0, True), (0, None), (0, "1"), ("0",), ((0,),), (0, (1,)), (0, [1]),
                      (GREAT,), (-GREAT, 0), (0, GREAT), {0: 1}, "0", 0, 1, None, True, False):
            check_told(self, False, is_bar, web=web, thing=thing)

    def test_anything(self):
        for web in ((3, ()), all_tied(3), (20, ()), all_tied(20), (6, ((0, 1),))):
            for thing in STRANGE + [()]:
                check_told(self, False, is_bar, web=web, thing=thing)


if __name__ == "__main__":
    unittest.main()
