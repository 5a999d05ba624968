"""The bar by counts: a number of holes below which no drawing of a web comes."""

from ringfloor.pieces import parts_with_ties, web_girth


def bar_of(web):
    """The bar by counts of the web, added over its parts."""
    return sum([part_bar(len(part), (web[0], ties)) for part, ties in parts_with_ties(web)])


def part_bar(many, piece):
    """The bar of a part with so many places, told as a web of its ties."""
    girth = web_girth(piece)
    if girth == 0:
        return 0
    least = (girth - 2) * len(piece[1]) - girth * (many - 2)
    # Divided upwards: the least whole number h with 2 * girth * h at least this.
    return max(0, (least + 2 * girth - 1) // (2 * girth))
