"""Drawings as text."""

from ringfloor.drawings import drawing_of
from ringfloor.errors import NoText
from ringfloor.webtext import is_number

EMPTY = "none"
BARE = "-"
BETWEEN = " / "
MOST_FIGURES = 3


def show_rows(drawing):
    """The text of the drawing."""
    if not drawing:
        return EMPTY
    return BETWEEN.join([show_row(row) for row in drawing])


def show_row(row):
    """The text of one row."""
    if not row:
        return BARE
    return " ".join([str(end) for end in row])


def read_rows(text):
    """The drawing that is written in the text."""
    if text == EMPTY:
        return []
    return drawing_of([read_row(piece) for piece in text.split(BETWEEN)])


def read_row(text):
    """The ends that are written in the text of one row."""
    if text == BARE:
        return []
    words = text.split(" ")
    for word in words:
        if not is_number(word, MOST_FIGURES):
            raise NoText("a word of a row is no number of one to three figures")
    return [int(word) for word in words]
