"""All ways to stand the ties of a web round its places."""

from ringfloor.drawings import drawn
from ringfloor.webs import near_places

MOST_WAYS = 1024


def way_drawings(web):
    """The drawings of the web, one for each of its ways."""
    ways = [[]]
    for row in drawn(web, near_places(web)):
        turns = rings_of(row)
        ways = [way + [turn] for way in ways for turn in turns]
    return ways


def rings_of(row):
    """All rings of the ends of the row, each begun with its first end."""
    rings = [row[:1]]
    for end in row[1:]:
        # The end stands once behind each of those that stand already: so no ring comes twice.
        rings = [ring[:at] + [end] + ring[at:] for ring in rings for at in range(1, len(ring) + 1)]
    return rings
