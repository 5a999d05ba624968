"""A desk told another way, for tests: whole copies of all that is kept, lines read by patterns."""

import re

from checks import all_lists, drawn_by
from ringfloor import (colours, counting, cutting, drawings, errors, fills, flat, gluing, heaps, kindread, kinds, lands,
                       layings, othermap, pieces, ringing, rowtext, spread, tying, waist, walks, webs, webtext)

NAME = "([a-z]{1,8})"
NUMBER = "(0|[1-9][0-9]{0,2})"
MANY = "((?:0|[1-9][0-9]{0,2})(?: (?:0|[1-9][0-9]{0,2}))*)"
TEXT = "([^ ]+(?: [^ ]+)*)"
NO_ORDERS = "no orders"


def numbers(text):
    return [int(word) for word in text.split()]


def joined(items):
    return " ".join(map(str, items)) or "none"


def rows_text(rows):
    return " / ".join(" ".join(map(str, row)) or "-" for row in rows) or "none"


def by_orders(web, orders):
    if orders is None:
        raise errors.NoOrders()
    return drawn_by(web, orders)


def bars_text(told):
    return "flat" if told is None else told[0] + " " + rows_text(told[1])


# Each deed: its pattern behind the first word and the name NEW, what is wanted of each old name, what it keeps.
DEEDS = {
    "web": (TEXT, "", webtext.read_web),
    "rows": (TEXT, "", rowtext.read_rows),
    "fours": (f"{NUMBER} {NUMBER} {NUMBER}", "", lambda r, c, s: kinds.fours(int(r), int(c), int(s))),
    "threes": (f"{NUMBER} {NUMBER} {NUMBER}", "", lambda r, c, s: kinds.threes(int(r), int(c), int(s))),
    "flat": (NAME, "w", lambda web: by_orders(web, flat.flat_orders(web))),
    "ring": (NAME, "w", lambda web: by_orders(web, ringing.ring_orders(web))),
    "beneath": (NAME, "d", drawings.web_beneath),
    "cut": (f"{NAME} {MANY}", "d", lambda d, ends: cutting.cut_along(d, numbers(ends))[0]),
    "glue": (f"{NAME} {MANY} with {MANY}", "d", lambda d, a, b: gluing.glued(d, numbers(a), numbers(b))[0]),
    "other": (NAME, "d", othermap.other_of),
    "mirror": (NAME, "d", othermap.mirrored),
    "take": (f"{NAME} {NUMBER}", "d", lambda d, tie: tying.taken(d, int(tie))),
    "shrink": (f"{NAME} {NUMBER}", "d", lambda d, tie: tying.shrunk(d, int(tie))),
}
ASKED = {
    "show": (NAME, "e", lambda one: webtext.show_web(one) if isinstance(one, tuple) else rows_text(one)),
    "lands": (NAME, "d", lambda d: rows_text(lands.lands_of(d))),
    "holes": (NAME, "d", lambda d: joined(lands.holes_of(d))),
    "ways": (NAME, "w", lambda web: str(webs.ways_of(web))),
    "girth": (NAME, "w", lambda web: str(pieces.web_girth(web))),
    "bar": (NAME, "w", lambda web: str(counting.bar_of(web))),
    "spread": (NAME, "w", lambda web: joined(spread.spread_of(web))),
    "bars": (NAME, "w", lambda web: bars_text(heaps.barring(web))),
    "kind": (f"{NAME} {NUMBER}", "d", lambda d, end: joined(kindread.read_kind(d, int(end))[:4])),
    "cross": (f"{NAME} {MANY} over {MANY}", "d",
              lambda d, a, b: str(walks.crossing_of(d, numbers(a), numbers(b)))),
    "fill": (f"{NAME} {MANY}", "d",
             lambda d, ends: "{} {}".format(*[joined(one) if isinstance(one, list) else one
                                              for one in fills.fill_of(d, numbers(ends))])),
    "alike": (f"{NAME} {NAME}", "dd", lambda one, two: "no" if layings.alike(one, two) is None else "yes"),
    "selves": (NAME, "d", lambda d: str(layings.selves_of(d))),
    "waist": (NAME, "d", lambda d: str(len(waist.waist_of(d)))),
    "colours": (NAME, "e", lambda one: joined(colours.coloured(
        webs.near_places(one) if isinstance(one, tuple) else colours.near_of(one), 6))),
}


class PlainDesk:
    """Keeps the whole of what is kept ahead of each deed and behind each one taken back."""

    def __init__(self):
        self.kept = {}
        self.ahead = []
        self.behind = []

    def do(self, line):
        for word, one, other in (("undo", self.ahead, self.behind), ("redo", self.behind, self.ahead)):
            if line == word:
                if not one:
                    raise errors.NoDeed()
                other.append(dict(self.kept))
                self.kept = one.pop()
                return "ok"
        if line == "names":
            return " ".join(sorted(self.kept)) or "none"
        drop = re.fullmatch(f"drop {NAME}", line)
        if drop:
            self.old(drop[1], "e")
            return self.deed(drop[1], None)
        word = line.split(" ")[0]
        if word in DEEDS:
            pattern, wanted, make = DEEDS[word]
            values = self.values(f"{word} {NAME} {pattern}", line, 1, wanted)
            return self.deed(values[0], make(*values[1:]))
        if word in ASKED:
            pattern, wanted, tell = ASKED[word]
            return tell(*self.values(f"{word} {pattern}", line, 0, wanted))
        raise errors.NoLine()

    def values(self, pattern, line, skipped, wanted):
        found = re.fullmatch(pattern, line)
        if not found:
            raise errors.NoLine()
        values = list(found.groups())
        for at in range(skipped, skipped + len(wanted)):
            self.old(values[at], "e")
        for at, sort in enumerate(wanted, skipped):
            values[at] = self.old(values[at], sort)
        return values

    def old(self, name, sort):
        if name not in self.kept:
            raise errors.NoName()
        one = self.kept[name]
        if sort != "e" and isinstance(one, tuple) != (sort == "w"):
            raise errors.WrongSort()
        return one

    def deed(self, name, one):
        kept = dict(self.kept)
        kept.pop(name, None)
        if one is not None:
            kept[name] = one
        self.ahead.append(self.kept)
        self.behind.clear()
        self.kept = kept
        return "ok"


def size_of(one):
    """How many lists and numbers something kept has, to keep sessions small."""
    return sum(len(row) + 1 for row in all_lists(one))


def state_of(desk):
    """All that a desk tells of what it keeps."""
    names = desk.do("names")
    kept = [] if names == "none" else names.split(" ")
    return [names] + [desk.do("show " + name) for name in kept]


def whole_state(desk):
    """All that is kept, and all that is kept behind each undo and each redo; leaves the desk as it was."""
    told = [state_of(desk)]
    for word, back in (("undo", "redo"), ("redo", "undo")):
        steps = 0
        while True:
            try:
                desk.do(word)
            except errors.NoDeed:
                break
            steps += 1
            told.append(state_of(desk))
        for _ in range(steps):
            desk.do(back)
        told.append(steps)
    return told
