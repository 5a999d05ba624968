"""Points 48 to 51: the desk."""

import random
import unittest

from checks import SIGNS, check_refused, some_drawing
from growing import grown, made_kind, named_anew
from plaindesk import ASKED, DEEDS, PlainDesk, size_of, state_of, whole_state
from ringfloor import errors
from ringfloor.desk import Desk
from ringfloor.errors import (Apart, FloorError, Looped, NoDeed, NoDrawing, NoEnd, NoKind, NoLine, NoName, NoNumbers,
                              NoOrders, NoRing, NoRound, NoSeam, NoText, NoTie, NoWalk, NoWeb, Thick, TooMany,
                              WrongSort)
from ringfloor.rowtext import show_rows

FIVE = "5 ab ac ad ae bc bd be cd ce de"
FOUR = "4 ab ac ad bc bd cd"
# A web (w), a ring drawing of one place (d), one of seven (s), a flat one (f), and two parts (p).
STOCK = ("web w " + FIVE, "rows d 0 2 1 3", "threes s 1 7 2", "rows f 0 / 1", "rows p 0 1 / -", "web v " + FOUR)

# Each form of a line on the stock, with its answer.
ANSWERS = (
    ("web a 3 ab bc", "ok"), ("web a 0", "ok"), ("web a 12", "ok"), ("web w 2 ba", "ok"),
    ("rows a none", "ok"), ("rows a -", "ok"), ("rows a 0 3 1 2 / 4 / - / 5", "ok"), ("rows d 1 0", "ok"),
    ("fours a 1 1 0", "ok"), ("fours a 5 8 7", "ok"), ("threes a 40 1 0", "ok"), ("threes a 1 40 39", "ok"),
    ("flat a v", "ok"), ("flat v v", "ok"), ("ring a w", "ok"), ("ring a v", "ok"), ("ring w w", "ok"),
    ("beneath a s", "ok"), ("beneath s s", "ok"), ("beneath a p", "ok"),
    ("cut a d 0", "ok"), ("cut d d 3", "ok"), ("cut a s 0 6 12 18 24 30 36", "ok"),
    ("glue a d 0 with 2", None), ("other a s", "ok"), ("other p p", "ok"), ("mirror a s", "ok"), ("mirror s s", "ok"),
    ("take a d 1", "ok"), ("take s s 20", "ok"), ("shrink a f 0", "ok"), ("shrink s s 0", "ok"),
    ("drop w", "ok"), ("drop p", "ok"), ("undo", "ok"),
    ("names", "d f p s v w"), ("show w", FIVE), ("show d", "0 2 1 3"), ("show p", "0 1 / -"),
    ("lands d", "0 3 1 2"), ("lands p", "0 / 1 / -"), ("lands f", "0 1"), ("holes d", "1"), ("holes p", "0 0"),
    ("ways w", "7776"), ("ways v", "16"), ("girth w", "3"), ("bar w", "1"), ("bar v", "0"), ("spread v", "2 14"),
    ("bars v", "flat"), ("bars w", "five 0 / 1 / 2 / 3 / 4"), ("kind s 41", "threes 1 7 2"),
    ("kind d 0", "fours 1 1 0"),
    ("cross d 0 over 3", "1"), ("cross d 0 over 2", "-1"), ("cross d 0 0 over 2 2 2", "-6"), ("cross d 0 over 0", "0"),
    ("fill p 0", "filled 1 0 0"), ("fill f 0 1", "filled 0"), ("alike s s", "yes"), ("alike d s", "no"),
    ("selves s", "42"), ("selves f", "2"), ("waist s", "3"), ("waist d", "1"),
    ("colours s", "6 5 4 3 2 1 0"), ("colours w", "4 3 2 1 0"), ("colours f", "1 0"), ("colours p", "0 0"),
)

# What each line is refused with on the stock.
REFUSED = (
    ("web a x", NoText), ("web a 13", NoWeb), ("web a 3 ab ba", NoWeb), ("web a none", NoText), ("web a 2 AB", NoText),
    ("rows a x", NoText), ("rows a 0 0", NoDrawing), ("rows a 0", NoDrawing), ("rows a 0 1 /", NoText),
    ("rows a 1000 1", NoText), ("rows a 01 0", NoText), ("rows a none none", NoText), ("rows a - -", NoText),
    ("fours a 0 1 0", NoNumbers), ("fours a 1 1 1", NoNumbers), ("threes a 6 7 0", NoNumbers),
    ("threes a 999 999 999", NoNumbers), ("fours a 0 0 0", NoNumbers),
    ("flat a w", NoOrders), ("flat w w", NoOrders), ("cut a d 0 1", NoRound), ("cut a d 4", NoRound),
    ("cut a f 0 1", NoRound), ("glue a d 0 with 0", NoSeam), ("glue a d 0 1 with 0", NoRound),
    ("glue a d 0 with 999", NoRound), ("take a d 2", NoTie), ("take a d 999", NoTie), ("shrink a d 0", Looped),
    ("shrink a d 2", NoTie), ("undo undo", NoLine), ("redo", NoDeed), ("kind d 4", NoEnd), ("kind f 2", NoEnd),
    ("kind f 0", NoKind), ("kind p 0", NoKind), ("spread w", TooMany), ("cross d 4 over 0", NoWalk),
    ("cross d 0 over 999", NoWalk), ("cross s 0 over 0", NoWalk), ("fill s 0", NoWalk), ("alike p s", Apart),
    ("alike s p", Apart), ("alike p p", Apart), ("selves p", Apart), ("waist f", NoRing), ("waist p", NoRing),
    ("show x", NoName), ("drop x", NoName), ("flat a x", NoName), ("flat a a", NoName), ("other a x", NoName),
    ("alike x w", NoName), ("alike w x", NoName), ("alike d x", NoName), ("cut a x 0", NoName), ("colours x", NoName),
    ("glue a x 0 with 0", NoName), ("cross x 0 over 0", NoName), ("kind x 999", NoName), ("take a x 0", NoName),
    ("flat a d", WrongSort), ("ring a d", WrongSort), ("beneath a w", WrongSort), ("cut a w 0", WrongSort),
    ("glue a w 0 with 0", WrongSort), ("other a w", WrongSort), ("mirror a w", WrongSort), ("take a w 0", WrongSort),
    ("shrink a w 999", WrongSort), ("lands w", WrongSort), ("holes w", WrongSort), ("ways d", WrongSort),
    ("girth d", WrongSort), ("bar d", WrongSort), ("spread d", WrongSort), ("bars d", WrongSort),
    ("kind w 0", WrongSort), ("cross w 0 over 0", WrongSort), ("fill w 0", WrongSort), ("alike w d", WrongSort),
    ("alike d w", WrongSort), ("alike w w", WrongSort), ("alike p w", WrongSort), ("selves w", WrongSort),
    ("waist w", WrongSort),
)


def stocked(make=Desk):
    desk = make()
    for line in STOCK:
        desk.do(line)
    return desk


def answer_of(desk, line):
    """The text that a line is answered with, or the class that it is refused with."""
    try:
        return desk.do(line)
    except FloorError as error:
        return error.__class__


class Answers(unittest.TestCase):
    def test_each_form_of_a_line(self):
        for line, told in ANSWERS:
            desk, plain = stocked(), stocked(PlainDesk)
            answer = answer_of(desk, line)
            if told is not None:
                self.assertEqual(answer, told, line)
            self.assertEqual(answer, answer_of(plain, line), line)
            self.assertEqual(whole_state(desk), whole_state(plain), line)
        forms = {line.split()[0] for line, _ in ANSWERS}
        self.assertEqual(forms, set(DEEDS) | set(ASKED) | {"names", "drop", "undo"})

    def test_answers_are_texts(self):
        desk = stocked()
        for line, told in ANSWERS:
            if told is not None and line.split()[0] in ASKED:
                self.assertIsInstance(desk.do(line), str)

    def test_a_desk_that_keeps_nothing(self):
        desk = Desk()
        self.assertEqual(desk.do("names"), "none")
        check_refused(self, NoDeed, desk.do, "undo")
        check_refused(self, NoDeed, desk.do, "redo")
        check_refused(self, NoName, desk.do, "show a")
        check_refused(self, NoName, desk.do, "drop a")
        self.assertEqual(desk.do("names"), "none")

    def test_drawings_and_webs_without_places(self):
        desk = Desk()
        self.assertEqual(desk.do("rows a none"), "ok")
        for line, told in (("show a", "none"), ("lands a", "none"), ("holes a", "none"), ("colours a", "none"),
                           ("other b a", "ok"), ("show b", "none"), ("mirror b a", "ok"), ("beneath b a", "ok"),
                           ("show b", "0"), ("colours b", "none"), ("ways b", "1"), ("girth b", "0"), ("bar b", "0"),
                           ("spread b", "1"), ("bars b", "flat"), ("flat c b", "ok"), ("show c", "none"),
                           ("ring c b", "ok"), ("names", "a b c"), ("holes c", "none")):
            self.assertEqual(desk.do(line), told, line)
        for line, refusal in (("selves a", Apart), ("alike a a", Apart), ("waist a", NoRing), ("kind a 0", NoEnd),
                              ("take b a 0", NoTie), ("cut b a 0", NoRound), ("fill a 0", NoWalk)):
            check_refused(self, refusal, desk.do, line)

    def test_bare_places(self):
        desk = Desk()
        desk.do("rows a - / -")
        for line, told in (("show a", "- / -"), ("lands a", "- / -"), ("holes a", "0 0"), ("colours a", "0 0")):
            self.assertEqual(desk.do(line), told)
        desk.do("rows b -")
        for line, told in (("alike b b", "yes"), ("selves b", "1"), ("holes b", "0")):
            self.assertEqual(desk.do(line), told)

    def test_what_a_fill_tells(self):
        desk = Desk()
        desk.do("rows a 0 2 1 3")
        self.assertIn(desk.do("fill a 0"), ("crossed 2", "crossed 3"))
        self.assertEqual(desk.do("fill a 0 1"), "filled 0")
        desk.do("fours b 1 3 0")
        word, *ends = desk.do("fill b 0 4 8").split(" ")
        self.assertEqual(word, "crossed")
        self.assertNotEqual(desk.do("cross b 0 4 8 over " + " ".join(ends)), "0")

    def test_what_bars_are_written_as(self):
        desk = Desk()
        desk.do("web a 6 ad ae af bd be bf cd ce cf")
        word, text = desk.do("bars a").split(" ", 1)
        self.assertEqual(word, "threes")
        self.assertEqual(sorted(text.split(" / ")), ["0", "1", "2", "3", "4", "5"])
        desk.do("web a 7 ab bc cd de ef fg")
        self.assertEqual(desk.do("bars a"), "flat")

    def test_cut_and_glued_the_very_drawing_again(self):
        desk = stocked()
        self.assertEqual(desk.do("cut c s 0 6 12 18 24 30 36"), "ok")
        self.assertEqual(desk.do("glue c c 0 6 12 18 24 30 36 with 42 44 46 48 50 52 54"), "ok")
        self.assertEqual(desk.do("show c"), desk.do("show s"))
        self.assertEqual(desk.do("cut d d 0"), "ok")
        self.assertEqual(desk.do("glue d d 0 with 4"), "ok")
        self.assertEqual(desk.do("show d"), "0 2 1 3")

    def test_names_in_the_order_of_their_letters(self):
        desk = Desk()
        for name in ("b", "ab", "a", "aa", "zzzzzzzz", "abcdefgh", "abc", "with", "over", "web", "none", "undo"):
            self.assertEqual(desk.do(f"rows {name} -"), "ok")
        self.assertEqual(desk.do("names"), "a aa ab abc abcdefgh b none over undo web with zzzzzzzz")
        self.assertEqual(desk.do("drop aa"), "ok")
        self.assertEqual(desk.do("names"), "a ab abc abcdefgh b none over undo web with zzzzzzzz")

    def test_names_that_are_words_of_lines(self):
        desk = Desk()
        desk.do("rows with 0 2 1 3")
        desk.do("rows over 0 2 1 3")
        self.assertEqual(desk.do("cross over 0 over 3"), "1")
        self.assertEqual(desk.do("cross with 0 1 over 3 2"), "0")
        self.assertEqual(desk.do("cut with with 0"), "ok")
        self.assertEqual(desk.do("glue over with 0 with 4"), "ok")
        self.assertEqual(desk.do("show over"), "0 2 1 3")
        self.assertEqual(desk.do("other undo with"), "ok")
        self.assertEqual(desk.do("drop undo"), "ok")

    def test_numbers_of_three_figures(self):
        desk = Desk()
        row = " ".join(str(end) for end in range(1000))
        self.assertEqual(desk.do("rows a " + row), "ok")
        self.assertEqual(desk.do("show a"), row)
        self.assertEqual(desk.do("take a a 499"), "ok")
        self.assertEqual(desk.do("show a"), " ".join(str(end) for end in range(998)))

    def test_thick(self):
        desk = Desk()
        rows, ends = [[] for _ in range(8)], 0
        for one in range(8):
            for two in range(one):
                rows[one].append(ends)
                rows[two].append(ends + 1)
                ends += 2
        desk.do("rows a " + show_rows(rows))
        check_refused(self, Thick, desk.do, "colours a")
        desk.do("beneath a a")
        check_refused(self, Thick, desk.do, "colours a")

    def test_ring_orders(self):
        desk = Desk()
        # Two blocks that are not flat: none has ring orders. A great block: too many ways.
        desk.do("web a 9 ab ac ad ae bc bd be cd ce de ef eg eh ei fg fh fi gh gi hi")
        check_refused(self, NoOrders, desk.do, "ring a a")
        pairs = [f"{x}{y}" for at, x in enumerate("abcd") for y in "efghijkl"]
        desk.do("web a 12 " + " ".join(pairs))
        self.assertIn(answer_of(desk, "ring b a"), (NoOrders, TooMany))
        desk.do("rows r " + " / ".join(["-"] * 13))
        check_refused(self, TooMany, desk.do, "beneath r r")
        self.assertEqual(desk.do("show r"), " / ".join(["-"] * 13))


class Refusals(unittest.TestCase):
    def test_each_refusal_and_all_stays_as_it_was(self):
        desk = stocked()
        desk.do("drop w")
        desk.do("web extra 1")
        desk.do("undo")
        desk.do("undo")
        before = whole_state(desk)
        self.assertEqual(before[-1], 2)
        for line, refusal in REFUSED:
            if refusal is not NoDeed:
                check_refused(self, refusal, desk.do, line)
                self.assertEqual(whole_state(desk), before, line)
        desk.do("redo")
        desk.do("redo")
        before = whole_state(desk)
        check_refused(self, NoDeed, desk.do, "redo")
        self.assertEqual(whole_state(desk), before)

    def test_each_class_stands_beneath_floor_error_alone(self):
        for _, refusal in REFUSED:
            self.assertEqual(refusal.__bases__, (FloorError,))
        self.assertEqual(FloorError.__bases__, (ValueError,))
        known = {refusal for _, refusal in REFUSED} | {NoLine, Thick}
        self.assertEqual({name for name in dir(errors) if name[0].isupper()},
                         {refusal.__name__ for refusal in known} | {"FloorError"})

    def test_no_line(self):
        desk = stocked()
        before = whole_state(desk)
        lines = ["", " ", "  ", "a", "web", "Web a 1", "web a", "web  a 1", "web a  1", " web a 1", "web a 1 ",
                 "web A 1", "web a1 1", "web aaaaaaaaa 1", "web a-b 1", "web 0 1", "webs a 1", "rows a", "rows a ",
                 "rows 1 -", "fours a 1 1", "fours a 1 1 0 0", "fours a 01 1 0", "fours a 1000 1 0", "fours a -1 1 0",
                 "fours a 1 +1 0", "fours a 1 1 x", "fours a 00 1 0", "fours a 1 1 0.", "threes a", "threes a 1 1 0000",
                 "flat a", "flat a w w", "flat a 1", "ring a w 0", "beneath d", "cut a d", "cut a d x", "cut a d 0 x",
                 "cut a d 0 01", "cut a d 0 1000", "cut a d -1", "glue a d 0 with", "glue a d with 0", "glue a d 0",
                 "glue a d 0 with 0 with 0", "glue a d 0 over 0", "glue a d 0 With 0", "glue a with with 0",
                 "glue a d 0 with 0 x", "other a", "mirror a d d", "take a d", "take a d 0 0", "take a d x",
                 "shrink a d 1000", "drop", "drop w d", "undo 1", "undo ", "redo redo", "names w", "names ", "show",
                 "show w w", "show 1", "lands", "holes d 0", "ways", "girth w w", "bar", "spread", "bars w 1",
                 "kind d", "kind d 0 0", "kind d 00", "kind d x", "cross d 0", "cross d 0 over", "cross d over 0",
                 "cross d 0 over 0 over 0", "cross d 0 with 0", "cross over 0 over 0 over 0", "fill d", "fill d x",
                 "fill d 0 -0", "alike d", "alike d d d", "selves", "selves d d", "waist", "waist d 0", "colours",
                 "colours w 6", "none", "ok", "web-a", "WEB a 1", "drop W", "drop drops x", "over", "with", "do"]
        for line in lines:
            check_refused(self, NoLine, desk.do, line)
            self.assertIs(answer_of(PlainDesk(), line), NoLine, line)
        self.assertEqual(whole_state(desk), before)

    def test_one_word_more_one_word_less_one_blank_more(self):
        for line, _ in ANSWERS + REFUSED:
            words = line.split(" ")
            broken = [" " + line, line + " ", line.upper(), line + "\x7e", "x" + line, words[0] + "s " + line[2:]]
            broken += [line + " " + more for more in ("0", "x", "over", "with", "X", "0 with 0", "0 over 0")]
            for at in range(len(words)):
                broken += [" ".join(words[:at] + words[at + 1:]), " ".join(words[:at] + [""] + words[at:]),
                           " ".join(words[:at] + [words[at]] + words[at:])]
                for word in ("0", "00", "1000", "a", "A", "abcdefghi", "with", "over", "-1", "/"):
                    broken.append(" ".join(words[:at] + [word] + words[at + 1:]))
            for other in broken:
                self.assertEqual(answer_of(stocked(), other), answer_of(stocked(PlainDesk), other), other)

    def test_each_sign(self):
        desk = stocked()
        for sign in SIGNS:
            for line in (sign, "show " + sign, "show w" + sign, sign + "show w", "web x" + sign + " 1",
                         "kind d " + sign, "kind d 0" + sign, "names" + sign):
                self.assertEqual(answer_of(desk, line), answer_of(stocked(PlainDesk), line), line)

    def test_long_lines(self):
        desk = stocked()
        for line in ("a" * 4000, " " * 4000, "show " + "a" * 3995, "fill d " + "0 " * 1990 + "0",
                     "web a " + "ab " * 1300, "web a 2" + " ab" * 1300, "cut a d " + "999 " * 990 + "999",
                     "x " * 1999 + "x", "names " * 600 + "names"):
            self.assertEqual(answer_of(desk, line), answer_of(stocked(PlainDesk), line), line[:40])
        self.assertEqual(desk.do("fill d " + "0 1 " * 499 + "0 1"), "filled 0")

    def test_no_name_comes_ahead_of_wrong_sort_and_no_line_ahead_of_both(self):
        desk = stocked()
        for line, refusal in (("alike w x", NoName), ("alike x w", NoName), ("alike w w", WrongSort),
                              ("alike w x x", NoLine), ("cut a x", NoLine), ("cut a w 0 x", NoLine),
                              ("kind x 1000", NoLine), ("kind w 1000", NoLine), ("kind w 999", WrongSort),
                              ("fours a 1 1", NoLine), ("flat A x", NoLine), ("flat a X", NoLine),
                              ("glue a w 0 with", NoLine), ("glue a w 0 with 999", WrongSort),
                              ("glue a x 999 with 999", NoName), ("web a  x", NoLine), ("rows a x  y", NoLine)):
            check_refused(self, refusal, desk.do, line)


class Deeds(unittest.TestCase):
    def test_undo_and_redo(self):
        desk = Desk()
        for at in range(3):
            desk.do(f"web a {at}")
        self.assertEqual([desk.do("undo"), desk.do("show a")], ["ok", "1"])
        self.assertEqual([desk.do("undo"), desk.do("show a")], ["ok", "0"])
        self.assertEqual([desk.do("redo"), desk.do("show a")], ["ok", "1"])
        desk.do("undo")
        self.assertEqual([desk.do("undo"), desk.do("names")], ["ok", "none"])
        check_refused(self, NoDeed, desk.do, "undo")
        for at in range(3):
            self.assertEqual([desk.do("redo"), desk.do("show a")], ["ok", str(at)])
        check_refused(self, NoDeed, desk.do, "redo")

    def test_a_deed_makes_an_end_of_what_may_be_done_again(self):
        for line in ("web a 5", "rows b -", "drop a", "mirror d d", "web a 1"):
            desk = Desk()
            for first in ("rows d 0 1", "web a 1", "web c 2"):
                desk.do(first)
            desk.do("undo")
            self.assertEqual(desk.do(line), "ok")
            check_refused(self, NoDeed, desk.do, "redo")
            desk.do("undo")
            self.assertEqual(state_of(desk), ["a d", "1", "0 1"])

    def test_what_is_asked_and_what_is_refused_make_no_end_of_it(self):
        desk = stocked()
        desk.do("drop w")
        desk.do("undo")
        for line, told in ANSWERS:
            if line.split()[0] in ASKED or line == "names":
                self.assertEqual(desk.do(line), told)
        for line, refusal in REFUSED:
            if refusal is not NoDeed:
                check_refused(self, refusal, desk.do, line)
        self.assertEqual(desk.do("redo"), "ok")
        self.assertEqual(desk.do("names"), "d f p s v")

    def test_a_deed_that_leaves_all_as_it_was(self):
        desk = stocked()
        for line in ("web w " + FIVE, "mirror f f", "rows d 1 3 0 2"):
            before = state_of(desk)
            self.assertEqual(desk.do(line), "ok")
            self.assertEqual(state_of(desk), before)
            desk.do("undo")
            self.assertEqual(state_of(desk), before)
            desk.do("redo")
        desk.do("undo")
        desk.do("undo")
        desk.do("undo")
        desk.do("undo")
        self.assertEqual(desk.do("names"), "d f p s w")

    def test_another_sort_under_the_same_name(self):
        desk = Desk()
        for line in ("web a 2 ab", "flat a a", "beneath a a", "rows a -", "drop a", "web a 1"):
            self.assertEqual(desk.do(line), "ok")
        told = []
        for _ in range(6):
            told.append(state_of(desk)[1:])
            desk.do("undo")
        self.assertEqual(told, [["1"], [], ["-"], ["2 ab"], ["0 / 1"], ["2 ab"]])

    def test_hundreds_of_deeds(self):
        desk, plain = Desk(), PlainDesk()
        for at in range(600):
            line = f"rows {'abcdefg'[at % 7]} {' '.join(map(str, range(2 * (at % 50))))}".strip()
            line = line if at % 50 else f"web {'abcdefg'[at % 7]} {at % 13}"
            if at % 11 == 10 and "abcdefg"[at % 7] in desk.do("names"):
                line = "drop " + "abcdefg"[at % 7]
            self.assertEqual(desk.do(line), plain.do(line))
        for word in ("undo", "redo", "undo"):
            for _ in range(600):
                self.assertEqual(desk.do(word), plain.do(word))
                self.assertEqual(state_of(desk), state_of(plain))
            check_refused(self, NoDeed, desk.do, word)
        self.assertEqual(desk.do("names"), "none")

    def test_two_desks_side_by_side(self):
        one, two = stocked(), stocked()
        before = whole_state(two)
        for line, _ in ANSWERS:
            answer_of(one, line)
        self.assertEqual(whole_state(two), before)
        self.assertEqual(Desk().do("names"), "none")
        check_refused(self, NoDeed, Desk().do, "undo")

    def test_the_same_question_ahead_behind_and_back(self):
        questions = [line for line, _ in ANSWERS if line.split()[0] in ASKED]
        desk = stocked()
        deeds = ("shrink s s 0", "take d d 0", "rows f 0 1 2 3", "web w 3 ab", "drop v", "other p p", "mirror s s")
        told = [[answer_of(desk, line) for line in questions]]
        for deed in deeds:
            self.assertEqual(desk.do(deed), "ok")
            told.append([answer_of(desk, line) for line in questions])
        self.assertNotEqual(told[0], told[-1])
        for word, back in (("undo", -1), ("redo", 1)):
            at = len(deeds) if back < 0 else 0
            for _ in deeds:
                desk.do(word)
                at += back
                self.assertEqual([answer_of(desk, line) for line in questions], told[at])


class Sessions(unittest.TestCase):
    NAMES = ("a", "b", "ab", "abc", "zz", "over", "with", "abcdefgh")

    def text(self, chance):
        """What makes a web or a drawing, or nearly."""
        pick = chance.randrange(6)
        if pick == 0:
            return "web", "{} {}".format(chance.randint(0, 13), " ".join(chance.sample(
                ["ab", "bc", "ca", "ad", "de", "ea", "fb", "bd", "ef", "ba", "zz"], chance.randint(1, 9))))
        if pick == 1:
            return "web", chance.choice([FIVE, FOUR, "0", "1", "x", "6 ad ae af bd be bf cd ce cf"])
        if pick == 2:
            return "rows", show_rows(some_drawing(chance, chance.randint(1, 6), chance.randint(0, 8)))
        if pick == 3:
            holes = chance.randint(0, 2)
            return "rows", show_rows(grown(chance, chance.randint(1, 5), 9, holes))
        if pick == 4:
            return "rows", chance.choice(["none", "-", "0 2 1 3", "0 1 / -", "0 0", "0 1 /", "1 0"])
        made = made_kind("threes", 1, chance.randint(1, 8), 0)
        return "rows", show_rows(named_anew(chance, made)[0])

    def line(self, chance, desk):
        name, other = chance.choice(self.NAMES), chance.choice(self.NAMES)
        word = chance.choice(list(DEEDS) + list(ASKED) * 2 + ["drop", "undo", "undo", "redo", "names"] + ["new"] * 9)
        if word in ("undo", "redo", "names"):
            return word
        if word == "drop":
            return f"drop {name}"
        if word in ("new", "web", "rows"):
            return "{0} {2} {1}".format(*self.text(chance), name)
        if word in ("fours", "threes"):
            return f"{word} {name} {chance.randint(0, 5)} {chance.randint(1, 6)} {chance.randint(0, 4)}"
        names = f"{name} {other}" if word in DEEDS or word == "alike" else name
        kept = desk.kept.get(names.split()[-1])
        ends = self.ends(chance, kept)
        if word in ("cut", "fill"):
            return f"{word} {names} {ends}"
        if word in ("glue", "cross"):
            return f"{word} {names} {ends} {'with' if word == 'glue' else 'over'} {self.ends(chance, kept)}"
        if word in ("take", "shrink", "kind"):
            return f"{word} {names} {chance.randint(0, 9)}"
        return f"{word} {names}"

    def ends(self, chance, kept):
        """A walk on what is kept, if it is a drawing, or any numbers."""
        if isinstance(kept, list) and chance.randrange(5) and any(kept):
            home = {end: row for row in kept for end in row}
            walk = [chance.choice(sorted(home))]
            while walk[-1] ^ 1 not in home[walk[0]] and len(walk) < 12:
                walk.append(chance.choice(home[walk[-1] ^ 1]))
            return " ".join(map(str, walk))
        return " ".join(str(chance.randint(0, 12)) for _ in range(chance.randint(1, 3)))

    def test_sessions_by_chance(self):
        answers = []
        for seed in range(25):
            chance = random.Random(seed)
            desk, plain = Desk(), PlainDesk()
            for at in range(160):
                line = self.line(chance, plain)
                answer = answer_of(plain, line)
                self.assertEqual(answer_of(desk, line), answer, (seed, at, line))
                answers.append((line.split()[0], answer if isinstance(answer, type) else "told"))
                for name, one in list(plain.kept.items()):
                    # Cut again and again a drawing would grow beyond all bounds.
                    if size_of(one) > 90:
                        self.assertEqual(desk.do(f"drop {name}"), plain.do(f"drop {name}"))
            self.assertEqual(whole_state(desk), whole_state(plain))
        told = {word for word, answer in answers if answer == "told"}
        self.assertEqual(told | {"glue"}, set(DEEDS) | set(ASKED) | {"drop", "undo", "redo", "names", "glue"})
        self.assertGreater(len({answer for _, answer in answers}), 15)


if __name__ == "__main__":
    unittest.main()
