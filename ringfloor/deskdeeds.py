"""What a desk keeps by a deed."""

from ringfloor.cutting import cut_along
from ringfloor.drawings import drawn, web_beneath
from ringfloor.errors import NoOrders
from ringfloor.flat import flat_orders
from ringfloor.gluing import glued
from ringfloor.kinds import fours, threes
from ringfloor.othermap import mirrored, other_of
from ringfloor.ringing import ring_orders
from ringfloor.rowtext import read_rows
from ringfloor.tying import shrunk, taken
from ringfloor.webtext import read_web


def made_by(word, values):
    """The web or drawing that the deed of this first word makes of the values behind its new name."""
    match [word] + values:
        case ["web", text]:
            return read_web(text)
        case ["rows", text]:
            return read_rows(text)
        case ["fours", rows, columns, shift]:
            return fours(rows, columns, shift)
        case ["threes", rows, columns, shift]:
            return threes(rows, columns, shift)
        case ["flat", web]:
            return drawn_with(web, flat_orders(web))
        case ["ring", web]:
            return drawn_with(web, ring_orders(web))
        case ["beneath", drawing]:
            return web_beneath(drawing)
        case ["cut", drawing, turn]:
            return cut_along(drawing, turn)[0]
        case ["glue", drawing, ones, others]:
            return glued(drawing, ones, others)[0]
        case ["other", drawing]:
            return other_of(drawing)
        case ["mirror", drawing]:
            return mirrored(drawing)
        case ["take", drawing, tie]:
            return taken(drawing, tie)
        case ["shrink", drawing, tie]:
            return shrunk(drawing, tie)


def drawn_with(web, orders):
    """The drawing of the web by the orders, if there are any."""
    if orders is None:
        raise NoOrders("the web has no such orders")
    return drawn(web, orders)
