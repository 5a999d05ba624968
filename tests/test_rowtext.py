"""Point 17: drawings as text."""

import random
import re
import unittest

from checks import SIGNS, check_own, check_refused, great_drawings, least_first, some_drawings, turned
from ringfloor.errors import NoDrawing, NoText
from ringfloor.rowtext import read_rows, show_rows

END = "(?:0|[1-9][0-9]{0,2})"
ROW = f"(?:-|{END}(?: {END})*)"
FORM = re.compile(f"{ROW}(?: / {ROW})*")


def told_of(text):
    """What point 17 makes of a text: a drawing, or the refusal that is due."""
    if text == "none":
        return []
    if not FORM.fullmatch(text):
        return NoText
    rows = [[int(end) for end in re.findall("[0-9]+", piece)] for piece in text.split("/")]
    ends = sorted(end for row in rows for end in row)
    if len(ends) % 2 or ends != list(range(len(ends))):
        return NoDrawing
    return [least_first(row) for row in rows]


class RowText(unittest.TestCase):
    def check(self, text):
        due = told_of(text)
        if isinstance(due, list):
            self.assertEqual(read_rows(text), due, text)
        else:
            check_refused(self, due, read_rows, text)

    def test_written(self):
        self.assertEqual(show_rows([[0, 3, 1, 2], [4], [], [5]]), "0 3 1 2 / 4 / - / 5")
        self.assertEqual(show_rows([]), "none")
        self.assertEqual(show_rows([[]]), "-")
        self.assertEqual(show_rows([[], []]), "- / -")
        self.assertEqual(show_rows([[0, 1]]), "0 1")

    def test_read(self):
        self.assertEqual(read_rows("0 3 1 2 / 4 / - / 5"), [[0, 3, 1, 2], [4], [], [5]])
        self.assertEqual(read_rows("none"), [])
        self.assertEqual(read_rows("-"), [[]])
        self.assertEqual(read_rows("- / - / -"), [[], [], []])
        self.assertEqual(read_rows("1 / 0"), [[1], [0]])

    def test_rows_begun_anywhere(self):
        self.assertEqual(read_rows("3 1 2 0 / 5 4"), [[0, 3, 1, 2], [4, 5]])
        chance = random.Random(17)
        for drawing in some_drawings(171, 300):
            text = show_rows([turned(chance, row) for row in drawing])
            self.assertEqual(read_rows(text), drawing)

    def test_written_and_read_again(self):
        for drawing in list(some_drawings(172, 300)) + list(great_drawings()):
            text = show_rows(drawing)
            self.assertEqual(text, " / ".join(" ".join(map(str, row)) or "-" for row in drawing) or "none")
            self.assertEqual(read_rows(text), drawing)

    def test_ends_of_three_figures(self):
        text = " ".join(str(end) for end in range(999, -1, -1))
        self.assertEqual(read_rows(text), [[0] + list(range(999, 0, -1))])
        self.assertLessEqual(len(text), 4000)
        check_refused(self, NoText, read_rows, text + " 1000 1001")
        check_refused(self, NoDrawing, read_rows, "999")

    def test_texts_that_are_none(self):
        for text in ("", " ", "/", " / ", "- /", "/ -", "- / ", " / -", "-/-", "- /-", "-/ -", "- // -", "- / / -",
                     "-  / -", "- /  -", "0 1 ", " 0 1", "0  1", "0 1 /", "00 1", "0 01", "0 001", "0000 1", "0 -1",
                     "0 +1", "0 1.", "0 - 1", "- 0 1", "0 1 -", "--", "- -", "None", "NONE", "none ", " none",
                     "none / -", "- / none", "none none", "0 1 none", "a b", "0,1", "0 1 2 1000", "1_0", "0 / 1 / x",
                     "0 1 / 2 3 / ", "~", "0\\1"):
            check_refused(self, NoText, read_rows, text)

    def test_rows_that_make_no_drawing(self):
        for text in ("0", "1", "0 0", "0 2", "1 2", "0 1 2", "0 / 0", "0 / - / 2", "0 1 / 1 2", "999", "0 999", "1 1",
                     "0 1 2 4", "- / 1", "0 1 / 0 1"):
            check_refused(self, NoDrawing, read_rows, text)

    def test_no_text_comes_ahead_of_no_drawing(self):
        for text in ("0 0 x", "0 / 00", "1  2", "0 / ", "7 / 7 /", "0 1000", "5 5 / none"):
            check_refused(self, NoText, read_rows, text)

    def test_texts_spoilt_by_single_signs(self):
        for text in ("none", "-", "0 1", "0 3 1 2 / 4 / - / 5", "- / 10 0 1 2 3 4 5 6 7 8 9 / 11"):
            for at in range(len(text) + 1):
                self.check(text[:at] + text[at + 1:])
                for sign in SIGNS:
                    self.check(text[:at] + sign + text[at:])
                    self.check(text[:at] + sign + text[at + 1:])

    def test_texts_spoilt_twice(self):
        chance = random.Random(18)
        signs = "0123456789-/ n"
        for drawing in some_drawings(173, 400):
            text = show_rows(drawing)
            for _ in range(2):
                at = chance.randint(0, len(text))
                text = text[:at] + chance.choice(["", chance.choice(signs)]) + text[at + chance.randint(0, 1):]
            self.check(text)

    def test_long_texts(self):
        for text in ("- / " * 999 + "-", "- / " * 1000, "0" * 4000, " " * 4000, "0 " * 2000, "/" * 4000, "1 " * 1999 + "1"):
            self.check(text)

    def test_what_is_told_is_the_askers_own(self):
        check_own(self, show_rows, [[0, 3, 1, 2], [4], [], [5]])
        for text in ("none", "- / - / 1 0", "0 3 1 2 / 4 / - / 5"):
            check_own(self, read_rows, text)


if __name__ == "__main__":
    unittest.main()
