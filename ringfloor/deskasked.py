"""What a desk tells when it is asked."""

from ringfloor.colours import coloured, near_of
from ringfloor.counting import bar_of
from ringfloor.fills import fill_of
from ringfloor.heaps import barring
from ringfloor.kindread import read_kind
from ringfloor.lands import holes_of, lands_of
from ringfloor.layings import alike, selves_of
from ringfloor.pieces import web_girth
from ringfloor.rowtext import show_rows
from ringfloor.spread import spread_of
from ringfloor.waist import waist_of
from ringfloor.walks import crossing_of
from ringfloor.webs import near_places, ways_of
from ringfloor.webtext import show_web

NOTHING = "none"


def told_by(word, values):
    """The text that the asked line of this first word tells of its values."""
    match [word] + values:
        case ["show", thing]:
            return show_web(thing) if is_web(thing) else show_rows(thing)
        case ["lands", drawing]:
            return show_rows(lands_of(drawing))
        case ["holes", drawing]:
            return show_list(holes_of(drawing))
        case ["ways", web]:
            return str(ways_of(web))
        case ["girth", web]:
            return str(web_girth(web))
        case ["bar", web]:
            return str(bar_of(web))
        case ["spread", web]:
            return show_list(spread_of(web))
        case ["bars", web]:
            return show_bar(barring(web))
        case ["kind", drawing, end]:
            return show_list(read_kind(drawing, end)[:4])
        case ["cross", drawing, walk, other]:
            return str(crossing_of(drawing, walk, other))
        case ["fill", drawing, walk]:
            return show_fill(fill_of(drawing, walk))
        case ["alike", one, two]:
            return "no" if alike(one, two) is None else "yes"
        case ["selves", drawing]:
            return str(selves_of(drawing))
        case ["waist", drawing]:
            return str(len(waist_of(drawing)))
        case ["colours", thing]:
            return show_list(coloured(near_places(thing) if is_web(thing) else near_of(thing)))


def is_web(thing):
    """Whether what is kept is a web, not a drawing."""
    return isinstance(thing, tuple)


def show_list(items):
    """The items parted by single blanks."""
    return " ".join([str(item) for item in items]) if items else NOTHING


def show_bar(bar):
    """The text of what bars a web from being drawn flat."""
    if bar is None:
        return "flat"
    name, heaps = bar
    return f"{name} {show_rows(heaps)}"


def show_fill(fill):
    """The text of what is told of a walk."""
    word, found = fill
    return show_list([word] + found)
