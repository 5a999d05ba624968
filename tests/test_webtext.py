"""Point 9: webs as text."""

import itertools
import random
import re
import unittest

from checks import SIGNS, all_webs, check_own, check_refused, full_web, some_webs
from ringfloor.errors import NoText, NoWeb
from ringfloor.webtext import read_web, show_web

FORM = re.compile("(0|[1-9][0-9]?)((?: [a-l][a-l])*)")


def told_of(text):
    """What point 9 makes of a text: a web, or the refusal that is due."""
    found = FORM.fullmatch(text)
    if not found:
        return NoText
    many = int(found[1])
    ties = sorted(tuple(sorted("abcdefghijkl".index(letter) for letter in word)) for word in found[2].split())
    if many > 12 or len(set(ties)) != len(ties) or any(a == b or b >= many for a, b in ties):
        return NoWeb
    return (many, ties)


class WebText(unittest.TestCase):
    def check(self, text):
        due = told_of(text)
        if isinstance(due, tuple):
            self.assertEqual(read_web(text), due, text)
        else:
            check_refused(self, due, read_web, text)

    def test_written(self):
        self.assertEqual(show_web((4, [(0, 1), (0, 2), (2, 3)])), "4 ab ac cd")
        self.assertEqual(show_web((0, [])), "0")
        self.assertEqual(show_web((1, [])), "1")
        self.assertEqual(show_web((12, [])), "12")
        self.assertEqual(show_web((12, [(0, 11), (10, 11)])), "12 al kl")

    def test_read(self):
        self.assertEqual(read_web("4 ab ac cd"), (4, [(0, 1), (0, 2), (2, 3)]))
        self.assertEqual(read_web("4 dc ca ba"), (4, [(0, 1), (0, 2), (2, 3)]))
        self.assertEqual(read_web("0"), (0, []))
        self.assertEqual(read_web("10"), (10, []))
        self.assertEqual(read_web("12 lk"), (12, [(10, 11)]))

    def test_written_and_read_again(self):
        webs = list(some_webs(91, 300)) + list(all_webs(4)) + [full_web(many) for many in range(13)]
        for web in webs:
            self.assertEqual(read_web(show_web(web)), web)

    def test_words_and_letters_in_any_order(self):
        chance = random.Random(92)
        for web in some_webs(93, 300):
            words = show_web(web).split(" ")
            ties = [word if chance.random() < 0.5 else word[::-1] for word in words[1:]]
            chance.shuffle(ties)
            self.assertEqual(read_web(" ".join(words[:1] + ties)), web)

    def test_texts_that_are_none(self):
        for text in ("", " ", "a", "ab", "ab 4", "04", "00", "012", "-1", "+1", "1.", "100", "000", "4 ", " 4", "4  ab",
                     "4 ab ", " 4 ab", "4 ab  ac", "4 abc", "4 a", "4 am", "4 mb", "4 AB", "4 a1", "4,ab", "4ab",
                     "4 ab 4", "4 ab-ac", "none", "4 ab bb c", "1_0", "4 ab ac ~~", "20 zz"):
            check_refused(self, NoText, read_web, text)

    def test_texts_that_make_no_web(self):
        for text in ("13", "99", "0 ab", "1 aa", "1 ab", "4 ae", "4 ea", "4 bb", "4 ab ab", "4 ab ba", "11 al", "20 kl"):
            check_refused(self, NoWeb, read_web, text)

    def test_no_text_comes_ahead_of_no_web(self):
        for text in ("13 am", "99 ab c", "4 aa am", "4 ab ab ", "0 ab x", "4 ae  ab", "1 ab m"):
            check_refused(self, NoText, read_web, text)

    def test_each_number_as_first_word(self):
        for number in range(1000):
            self.check(str(number))
            self.check("0" + str(number))
            self.check(str(number) + " ab")

    def test_each_pair_of_letters(self):
        letters = "abcdefghijklmnopqrstuvwxyzABL"
        for one, other in itertools.product(letters, repeat=2):
            for many in ("0", "5", "12"):
                self.check(many + " " + one + other)

    def test_texts_spoilt_by_single_signs(self):
        for text in ("0", "12", "4 ab ac cd", "12 la kb"):
            for at in range(len(text) + 1):
                self.check(text[:at] + text[at + 1:])
                for sign in SIGNS:
                    self.check(text[:at] + sign + text[at:])
                    self.check(text[:at] + sign + text[at + 1:])

    def test_long_texts(self):
        self.check(show_web(full_web(12)))
        self.check("12" + " ab" * 1332)
        self.check("1" * 4000)
        self.check(" " * 4000)
        self.check("12 " + "a" * 3997)

    def test_what_is_told_is_the_askers_own(self):
        check_own(self, show_web, (4, [(0, 1), (0, 2), (2, 3)]))
        check_own(self, read_web, "4 ab ac cd")
        check_own(self, read_web, "0")


if __name__ == "__main__":
    unittest.main()
