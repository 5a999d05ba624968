"""The spread of a web: how many of its ways have how many holes."""

from ringfloor.errors import TooMany
from ringfloor.lands import lands_of
from ringfloor.pieces import parts_with_ties
from ringfloor.ways import MOST_WAYS, way_drawings
from ringfloor.webs import ways_of


def spread_of(web):
    """At place h how many ways of the web have h holes in all parts together."""
    pieces = [(part, (web[0], ties)) for part, ties in parts_with_ties(web)]
    for _, piece in pieces:
        if ways_of(piece) > MOST_WAYS:
            raise TooMany(f"a part has more than {MOST_WAYS} ways")
    spread = [1]
    for part, piece in pieces:
        spread = multiplied(spread, part_spread(part, piece))
    return spread


def part_spread(part, piece):
    """The spread of a part, told as the web of its ties with all other places bare."""
    many, ties = piece
    spread = []
    for rows in way_drawings(piece):
        lands = len(lands_of(rows)) - (many - len(part))
        holes = (2 - len(part) + len(ties) - lands) // 2
        while len(spread) <= holes:
            spread.append(0)
        spread[holes] += 1
    return spread


def multiplied(one, other):
    """Both lists multiplied, each number with each, their places added."""
    told = [0] * (len(one) + len(other) - 1)
    for low, ways in enumerate(one):
        for high, more in enumerate(other):
            told[low + high] += ways * more
    return told
