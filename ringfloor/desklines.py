"""Lines told to a desk, parted into what their words stand for."""

from ringfloor.errors import NoLine
from ringfloor.webtext import is_number

# For each first word what stands behind it: NEW, OLD, WEB and DRAWING are names (the last three such under
# which anything, a web or a drawing is kept), N is a number, N.. one or more, TEXT all that is left.
FORMS = {
    "web": "NEW TEXT",
    "rows": "NEW TEXT",
    "fours": "NEW N N N",
    "threes": "NEW N N N",
    "flat": "NEW WEB",
    "ring": "NEW WEB",
    "beneath": "NEW DRAWING",
    "cut": "NEW DRAWING N..",
    "glue": "NEW DRAWING N.. with N..",
    "other": "NEW DRAWING",
    "mirror": "NEW DRAWING",
    "take": "NEW DRAWING N",
    "shrink": "NEW DRAWING N",
    "drop": "OLD",
    "undo": "",
    "redo": "",
    "names": "",
    "show": "OLD",
    "lands": "DRAWING",
    "holes": "DRAWING",
    "ways": "WEB",
    "girth": "WEB",
    "bar": "WEB",
    "spread": "WEB",
    "bars": "WEB",
    "kind": "DRAWING N",
    "cross": "DRAWING N.. over N..",
    "fill": "DRAWING N..",
    "alike": "DRAWING DRAWING",
    "selves": "DRAWING",
    "waist": "DRAWING",
    "colours": "OLD",
}
OLDS = ("OLD", "WEB", "DRAWING")
BETWEEN = ("with", "over")

LETTERS = "abcdefghijklmnopqrstuvwxyz"
MOST_LETTERS = 8
MOST_FIGURES = 3


def read_line(line):
    """The line's first word, and behind it pairs of a part of its form and the value that is written."""
    words = line.split(" ")
    if "" in words:
        raise NoLine("the line is not words parted by single blanks")
    if words[0] not in FORMS:
        raise NoLine("no line has this first word")
    left = words[1:]
    found = []
    for part in FORMS[words[0]].split():
        many = count_words(part, left)
        value = read_part(part, left[:many])
        left = left[many:]
        if part not in BETWEEN:
            found.append((part, value))
    if left:
        raise NoLine("the line has a word too many, or a number that is not written as told")
    return (words[0], found)


def count_words(part, left):
    """How many of the words that are left belong to the part."""
    if part == "TEXT":
        return len(left)
    if part == "N..":
        return count_numbers(left)
    return 1


def count_numbers(words):
    """How many numbers stand at the begin of the words."""
    many = 0
    while many < len(words) and is_number(words[many], MOST_FIGURES):
        many += 1
    return many


def read_part(part, words):
    """The value of the part that is written in these words."""
    if not words:
        raise NoLine("the line has a word too few, or a number that is not written as told")
    if part == "TEXT":
        return " ".join(words)
    if part == "N..":
        return [int(word) for word in words]
    if part == "N" and is_number(words[0], MOST_FIGURES):
        return int(words[0])
    if (part == "NEW" or part in OLDS) and is_name(words[0]):
        return words[0]
    if part in BETWEEN and part == words[0]:
        return part
    raise NoLine("a word of the line is not written as told")


def is_name(word):
    """Whether the word is one to eight letters from a to z."""
    return 1 <= len(word) <= MOST_LETTERS and all([sign in LETTERS for sign in word])
