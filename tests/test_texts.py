"""[6]: show_web and read_web."""

import re
import unittest

from closedrings.errors import NoText
from closedrings.texts import read_web, show_web
from closedrings.webs import all_tied

from tests.things import (GREAT_INTS, NO_INTS, check_call, check_refused, check_web, every_web, outcome,
                          webs_of_all_sizes)

SIGNS = [chr(code) for code in range(32, 127)] + ["\n"]
NUMBER = "(0|[1-9][0-9]*)"
FORM = re.compile(f"places {NUMBER}\n((?:tie {NUMBER} {NUMBER}\n)*)")


def web_or_none(text):
    """The web that a text is of, by another way than the package's."""
    match = FORM.fullmatch(text)
    if match is None or len(match.group(1)) > 2:
        return None
    many = int(match.group(1))
    words = re.findall("[0-9]+", match.group(2))
    if max([len(word) for word in words], default=1) > 2:
        return None
    numbers = [int(word) for word in words]
    ties = tuple(zip(numbers[::2], numbers[1::2]))
    right = 3 <= many <= 20 and all(a < b < many for a, b in ties) and list(ties) == sorted(set(ties))
    return (many, ties) if right else None


def ended(lines):
    return "".join(line + "\n" for line in lines)


class ShowWeb(unittest.TestCase):

    def test_sign_by_sign(self):
        self.assertEqual(show_web((3, ())), "places 3\n")
        self.assertEqual(show_web((3, ((0, 1), (0, 2), (1, 2)))), "places 3\ntie 0 1\ntie 0 2\ntie 1 2\n")
        self.assertEqual(show_web((20, ((2, 9), (2, 10), (18, 19)))), "places 20\ntie 2 9\ntie 2 10\ntie 18 19\n")

    def test_it_is_a_text_told_again(self):
        for web in webs_of_all_sizes():
            word, text = check_call(self, show_web, web=web)
            self.assertEqual(word, "told")
            self.assertIs(text.__class__, str)
            self.assertEqual(text.count("\n"), len(web[1]) + 1)

    def test_all_ties_of_twenty(self):
        lines = ["places 20"] + [f"tie {a} {b}" for a in range(20) for b in range(a + 1, 20)]
        self.assertEqual(show_web(all_tied(20)).split("\n"), lines + [""])


class ReadWeb(unittest.TestCase):

    def refused(self, thing):
        check_refused(self, NoText, read_web, thing=thing)

    def test_written_out(self):
        self.assertEqual(read_web("places 3\n"), (3, ()))
        self.assertEqual(read_web("places 12\ntie 0 10\ntie 9 11\n"), (12, ((0, 10), (9, 11))))

    def test_it_reads_what_is_shown(self):
        for many in (3, 4):
            for web in every_web(many):
                self.assertEqual(read_web(show_web(web)), web)
        for web in webs_of_all_sizes():
            word, told = check_call(self, read_web, thing=show_web(web))
            self.assertEqual((word, told), ("told", web))
            check_web(self, told)

    def test_what_is_no_text(self):
        for thing in NO_INTS + GREAT_INTS + [0, 3, 20, ["places 3\n"], ("places 3\n",), {"places 3\n": 1}, (3, ())]:
            self.refused(thing)

    def test_texts_written_out_that_are_none(self):
        tie = "places 4\ntie 0 1\n"
        for text in ["", "\n", " ", "places", "places\n", "places \n", "places 3", " places 3\n", "places  3\n",
                     "places 3 \n", "places 3\n\n", "\nplaces 3\n", "places 3\n ", "places 3\r\n", "places3\n",
                     "Places 3\n", "PLACES 3\n", "places +3\n", "places -3\n", "places 03\n", "places 003\n",
                     "places 3.0\n", "places three\n", "places 0x4\n", "places 1_0\n", "places 3 4\n", "place 3\n",
                     "places 0\n", "places 1\n", "places 2\n", "places 21\n", "places 22\n", "places 99\n",
                     "places 100\n", "places 300\n", "places 3\nplaces 3\n", "tie 0 1\n", "tie 0 1\nplaces 3\n",
                     "places\t3\n", "places 3 tie 0 1\n", "places 3tie 0 1\n",
                     tie + "tie 0 1\n", tie + "tie 0 4\n", tie + "tie 3 4\n", tie + "tie 2 2\n", tie + "tie 3 2\n",
                     tie + "tie 1 0\n", tie + "tie -1 2\n", tie + "tie 1 -2\n", tie + "tie 01 2\n",
                     tie + "tie 1 02\n", tie + "tie 1\n", tie + "tie\n", tie + "tie \n", tie + "tie 1 2 3\n",
                     tie + "tie  1 2\n", tie + "tie 1  2\n", tie + "tie 1 2 \n", tie + " tie 1 2\n",
                     tie + "Tie 1 2\n", tie + "TIE 1 2\n", tie + "tie 1 2", tie + "tie 1 2\n\n", tie + "\ntie 1 2\n",
                     tie + "tie 1,2\n", tie + "tie (1, 2)\n", tie + "tie a b\n", tie + "tie 1 \n2\n", tie + "x\n",
                     tie + "tie 1 2\ntie 0 3\n", "places 4\ntie 1 2\ntie 0 1\n", "places 3\n\x00",
                     "places \u0663\n", "places \u00b3\n", "places 3\u2028", "places 12\ntie 0 10\ntie 0 9\n"]:
            self.refused(text)

    def test_great_numbers(self):
        for size in (3, 31, 4300, 4301, 5000, 90_000):
            for sign in "1309":
                number = sign * size
                for text in (f"places {number}\n", f"places 3\ntie 0 {number}\n", f"places 3\ntie {number} 2\n",
                             f"places 3\ntie {number} {number}\n", number, number + "\n"):
                    self.refused(text)
            for text in (f"places {'0' * size}3\n", f"places 3{' ' * size}\n", f"places 4\ntie 0 {'0' * size}1\n"):
                self.refused(text)

    def test_lines_left_out_twice_or_out_of_order(self):
        for web in [(4, ((0, 1), (0, 3), (2, 3))), (12, ((0, 2), (0, 10), (1, 11), (9, 10))), all_tied(6)]:
            lines = show_web(web).split("\n")[:-1]
            for at in range(len(lines)):
                self.check_like_the_form(ended(lines[:at] + lines[at + 1:]))
                self.refused(ended(lines[:at + 1] + lines[at:]))
                for other in range(at):
                    turned = list(lines)
                    turned[at], turned[other] = turned[other], turned[at]
                    self.refused(ended(turned))
            self.refused(ended(lines[1:]))

    def test_line_ends_missing_or_too_many(self):
        text = show_web((12, ((0, 2), (0, 10), (1, 11), (9, 10))))
        for at, sign in enumerate(text):
            if sign == "\n":
                self.refused(text[:at] + text[at + 1:])
                self.refused(text[:at] + " " + text[at + 1:])
                self.refused(text[:at] + "\r" + text[at:])
            self.refused(text[:at] + "\n" + text[at:])
        self.refused(text + "\n")

    def test_a_text_broken_off(self):
        text = show_web((12, ((0, 2), (0, 10), (1, 11), (9, 10))))
        for at in range(len(text)):
            self.check_like_the_form(text[:at])
            self.check_like_the_form(text[at + 1:])

    def test_greater_place_first(self):
        for a in range(20):
            for b in range(a + 1):
                self.refused(f"places 20\ntie {a} {b}\n")

    def test_places_out_of_range(self):
        for many in range(-1, 25):
            self.assertEqual(outcome(lambda: read_web(f"places {many}\n"))[0] == "told", 3 <= many <= 20)
            if 3 <= many <= 20:
                self.assertEqual(read_web(f"places {many}\ntie 0 {many - 1}\n"), (many, ((0, many - 1),)))
                for b in (many, many + 1, many * 10, 99):
                    self.refused(f"places {many}\ntie 0 {b}\n")

    def check_like_the_form(self, text):
        web = web_or_none(text)
        right = ("refused", NoText) if web is None else ("told", web)
        self.assertEqual(outcome(lambda: read_web(text)), right, repr(text))
        return web is None

    def test_each_sign_put_in_left_out_or_exchanged(self):
        for web in [(3, ()), (4, ((0, 1), (1, 3))), (12, ((0, 2), (0, 10), (9, 11))), (20, ((1, 12), (10, 19)))]:
            text = show_web(web)
            refused = 0
            for at in range(len(text) + 1):
                refused += self.check_like_the_form(text[:at] + text[at + 1:])
                for sign in SIGNS:
                    refused += self.check_like_the_form(text[:at] + sign + text[at:])
                    refused += self.check_like_the_form(text[:at] + sign + text[at + 1:])
            self.assertGreater(refused, len(text) * 150)


if __name__ == "__main__":
    unittest.main()
