"""Webs as text."""

from ringfloor.errors import NoText
from ringfloor.webs import web_of

LETTERS = "abcdefghijkl"
MOST_FIGURES = 2


def show_web(web):
    """The text of the web."""
    many, ties = web
    words = [str(many)]
    for less, more in ties:
        words.append(LETTERS[less] + LETTERS[more])
    return " ".join(words)


def read_web(text):
    """The web that is written in the text."""
    words = text.split(" ")
    if not is_number(words[0], MOST_FIGURES):
        raise NoText("the first word is no number of one or two figures")
    pairs = [read_pair(word) for word in words[1:]]
    return web_of(int(words[0]), pairs)


def read_pair(word):
    """The two places that are written in the word."""
    if len(word) != 2 or word[0] not in LETTERS or word[1] not in LETTERS:
        raise NoText("a word behind the first is not two letters from a to l")
    return (LETTERS.index(word[0]), LETTERS.index(word[1]))


def is_number(word, most):
    """Whether the word is a number of at most so many figures, without a needless nought."""
    if not word.isascii() or not word.isdigit() or len(word) > most:
        return False
    return word == "0" or word[0] != "0"
