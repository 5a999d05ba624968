"""The refusals of the program."""


class FloorError(ValueError):
    """Any refusal."""


class NoWeb(FloorError):
    """A number and pairs that make no web."""


class NoText(FloorError):
    """A text that is not written as told."""


class NoDrawing(FloorError):
    """Rows that make no drawing."""


class NoOrders(FloorError):
    """Orders by which the web is not drawn."""


class NoTie(FloorError):
    """A number that no tie of the drawing has."""


class Looped(FloorError):
    """A loop where a tie between unlike places is wanted."""


class TooMany(FloorError):
    """More than the program takes on."""


class NoNumbers(FloorError):
    """Three numbers of which nothing is made."""


class NoEnd(FloorError):
    """A number that no end has."""


class NoKind(FloorError):
    """A drawing that has no kind."""


class NoWalk(FloorError):
    """A list of ends that is no walk."""


class NoRound(FloorError):
    """A list of ends that is no round."""


class NoSeam(FloorError):
    """Two rounds that can not be glued."""


class NoRing(FloorError):
    """A drawing that is no ring drawing."""


class Thick(FloorError):
    """Places that are left, each of them with too many near ones among them."""

    def __init__(self, places=()):
        super().__init__("each place that is left has too many near ones")
        self.places = list(places)


class Apart(FloorError):
    """A drawing that is not of just one part."""


class NoLine(FloorError):
    """A line that tells the desk nothing."""


class NoName(FloorError):
    """A name under which nothing is kept."""


class WrongSort(FloorError):
    """A web where a drawing is wanted, or a drawing where a web is."""


class NoDeed(FloorError):
    """No deed to be taken back or done again."""
