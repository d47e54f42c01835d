"""[2] and the interface: every name, its arguments by place and by name in any order, and nothing changed by a call."""

import copy
import importlib
import inspect
import itertools
import unittest

from closedrings.desk import Desk
from closedrings.webs import all_tied

from tests.things import outcome

WEB = (5, ((0, 1), (0, 2), (0, 3), (1, 4), (2, 3), (2, 4)))
PUTS = ((0, 4), (1, 2), (1, 3), (3, 4))
RING = (0, 1, 2, 3, 4)
PAPER = ("tie", (0, 1), ("few", 1), ("lot", (0,)))
STAR = (4, ((0, 1), (0, 2), (0, 3)))

# Each function with some right arguments and with some that are refused or said False of, by their names in order.
CALLS = {
    "webs": {
        "made_web": [{"many": 4, "ties": [[1, 0], (2, 3)]}, {"many": 4, "ties": [[1, 0], (0, 1)]},
                     {"many": [4], "ties": {}}],
        "counts_of": [{"web": WEB}],
        "beside": [{"web": WEB, "place": 2}],
        "all_tied": [{"many": 6}],
        "with_tie": [{"web": WEB, "a": 4, "b": 0}, {"web": WEB, "a": 1, "b": 0}, {"web": WEB, "a": [1], "b": {}}],
        "without_tie": [{"web": WEB, "a": 4, "b": 1}, {"web": WEB, "a": 4, "b": 0}, {"web": WEB, "a": [1], "b": {}}],
    },
    "texts": {
        "show_web": [{"web": WEB}],
        "read_web": [{"thing": "places 3\ntie 0 2\n"}, {"thing": "places 3"}, {"thing": ["places 3\n"]}],
    },
    "walks": {
        "is_way": [{"web": WEB, "thing": (1, 0, 2)}, {"web": WEB, "thing": [1, 0, 2]}],
        "is_ring": [{"web": WEB, "thing": (0, 2, 3)}, {"web": WEB, "thing": [0, [2], 3]}],
        "is_held": [{"web": WEB, "thing": ((0, 1), (0, 2))}, {"web": WEB, "thing": [(0, 1), [0, 2]]}],
        "is_whole_ring": [{"web": WEB, "held": ((0, 1),), "thing": (0, 1, 4, 2, 3)},
                          {"web": WEB, "held": ((0, 2),), "thing": (0, 1, 4, 2, 3)},
                          {"web": WEB, "held": ((0, 2),), "thing": {0: [1]}}],
        "ring_ties": [{"ring": (3, 2, 0)}],
        "told_ring": [{"ring": (3, 2, 0)}],
    },
    "lots": {
        "pieces": [{"web": STAR, "lot": (0,)}],
        "is_bar": [{"web": STAR, "thing": (0,)}, {"web": STAR, "thing": (1,)}, {"web": STAR, "thing": [0]}],
    },
    "closing": {
        "put_ahead": [{"web": WEB, "more": 0}, {"web": WEB, "more": 1}],
        "are_puts": [{"web": WEB, "more": 0, "thing": PUTS}, {"web": WEB, "more": 1, "thing": PUTS},
                     {"web": WEB, "more": 0, "thing": [[0, 4]]}],
        "web_with": [{"web": WEB, "puts": PUTS}],
        "closed": [{"web": WEB, "more": 0}, {"web": WEB, "more": 1}],
    },
    "leading": {
        "led_one": [{"web": WEB, "held": (), "put": (0, 4), "ring": (2, 3, 0, 1, 4)},
                    {"web": WEB, "held": (), "put": (0, 4), "ring": (0, 1, 2, 3, 4)},
                    {"web": WEB, "held": [], "put": [0, 4], "ring": [0]},
                    {"web": WEB, "held": (), "put": [], "ring": []}],
        "led_back": [{"web": WEB, "held": (), "puts": PUTS, "ring": RING},
                     {"web": WEB, "held": (), "puts": PUTS[:1], "ring": RING},
                     {"web": WEB, "held": (), "puts": [[0, 4]], "ring": [0]}],
    },
    "rows": {
        "row_of": [{"web": WEB}],
        "row_fault": [{"thing": (2, 2, 2, 3, 3)}, {"thing": (2, 2, 2)}, {"thing": [2, 2, 2]}],
        "tight_web": [{"many": 7, "i": 2}, {"many": 2, "i": 7}],
        "even_web": [{"many": 6}, {"many": 5}],
    },
    "growing": {
        "poor_pair": [{"web": WEB}, {"web": all_tied(4)}],
        "grown": [{"web": all_tied(4), "way": (2, 1)}, {"web": WEB, "way": (2,)}, {"web": WEB, "way": [2, [1]]}],
    },
    "papers": {
        "lets_by": [{"web": STAR, "held": (), "thing": PAPER}, {"web": STAR, "held": ((0, 1),), "thing": PAPER},
                    {"web": STAR, "held": (), "thing": [list(PAPER), {"few": [1]}]},
                    {"web": STAR, "held": [[0, 1]], "thing": PAPER}],
    },
    "cases": {
        "by_cases": [{"web": WEB, "held": ((0, 1),)}, {"web": STAR, "held": ()}, {"web": WEB, "held": [[0, 1]]},
                     {"web": all_tied(9), "held": ()}],
    },
    "asking": {
        "ask": [{"web": WEB, "held": ()}, {"web": STAR, "held": ((0, 1),)}, {"web": all_tied(12), "held": ((2, 9),)},
                {"web": (9, ()), "held": ()}, {"web": WEB, "held": [[0, 1]]}],
    },
    "ways": {
        "hubbed": [{"web": WEB}, {"web": all_tied(20)}],
        "way_through": [{"web": WEB}, {"web": STAR}, {"web": (9, ())}, {"web": all_tied(20)}],
    },
    "lengths": {
        "rings_of_lengths": [{"web": all_tied(5), "ring": RING}, {"web": all_tied(5), "ring": list(RING)},
                             {"web": WEB, "ring": (0, 1, 4, 2, 3)}],
    },
}


def functions():
    for module, names in CALLS.items():
        for name, calls in names.items():
            yield getattr(importlib.import_module(f"closedrings.{module}"), name), calls


class Functions(unittest.TestCase):

    def test_all_that_the_interface_lists(self):
        self.assertEqual(sum(len(names) for names in CALLS.values()), 34)
        self.assertEqual(len(CALLS), 13)

    def test_the_names_of_arguments_in_their_order(self):
        for function, calls in functions():
            for named in calls:
                self.assertEqual(list(inspect.signature(function).parameters), list(named), function)

    def test_by_place_and_by_name_in_any_order(self):
        for function, calls in functions():
            for named in calls:
                kept = copy.deepcopy(named)
                right = outcome(lambda: function(*named.values()))
                for order in itertools.permutations(named):
                    turned = {name: named[name] for name in order}
                    self.assertEqual(outcome(lambda: function(**turned)), right, function)
                    self.assertEqual(named, kept)
                for size in range(len(named)):
                    first = list(named.values())[:size]
                    rest = {name: named[name] for name in list(named)[size:]}
                    self.assertEqual(outcome(lambda: function(*first, **rest)), right, function)
                self.assertEqual(repr(named), repr(kept))

    def test_nothing_hangs_on_a_list_that_is_changed_later(self):
        for function, calls in functions():
            for named in calls:
                handed = copy.deepcopy(named)
                told = outcome(lambda: function(**handed))
                kept = copy.deepcopy(told)
                for thing in handed.values():
                    if isinstance(thing, list):
                        for part in thing:
                            if isinstance(part, list):
                                part.append(9)
                        thing.append((0, 1))
                    if isinstance(thing, dict):
                        thing[9] = 9
                self.assertEqual(told, kept)
                self.assertEqual(outcome(lambda: function(**named)), kept)

    def test_the_right_ones_are_told(self):
        for function, calls in functions():
            self.assertEqual(outcome(lambda: function(**calls[0]))[0], "told", function)


class Methods(unittest.TestCase):

    def test_the_names_of_arguments_in_their_order(self):
        right = {"__init__": ["many"], "web": [], "put": ["a", "b"], "take": ["a", "b"], "back": [], "ring": ["held"]}
        for name, arguments in right.items():
            self.assertEqual(list(inspect.signature(vars(Desk)[name]).parameters)[1:], arguments)

    def test_by_place_and_by_name_in_any_order(self):
        desks = [Desk(5), Desk(many=5), Desk(5), Desk(many=5)]
        for a, b in WEB[1] + ((3, 4),):
            desks[0].put(a, b)
            desks[1].put(a=a, b=b)
            desks[2].put(b=b, a=a)
            desks[3].put(a, b=b)
        desks[0].take(4, 3)
        desks[1].take(a=4, b=3)
        desks[2].take(b=3, a=4)
        desks[3].take(4, b=3)
        for desk in desks:
            self.assertEqual(desk.web(), WEB)
            self.assertEqual(desk.ring(((0, 1),)), desk.ring(held=((0, 1),)))
            held = [[0, 1]]
            self.assertEqual(outcome(lambda: desk.ring(held))[0], "refused")
            self.assertEqual(outcome(lambda: desk.ring(held=held))[0], "refused")
            self.assertEqual(held, [[0, 1]])


if __name__ == "__main__":
    unittest.main()
