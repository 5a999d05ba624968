"""A desk that keeps webs and drawings by names."""

from ringfloor.deskasked import is_web, show_list, told_by
from ringfloor.deskdeeds import made_by
from ringfloor.desklines import OLDS, read_line
from ringfloor.errors import NoDeed, NoName, WrongSort

DONE = "ok"


class Desk:
    """Keeps webs and drawings by names, and what was done, so that it can be undone and done again."""

    def __init__(self):
        self.kept = {}
        # Deeds are told by the name that each changed, what was kept under it ahead and what behind:
        # None where nothing was.
        self.done = []
        self.undone = []

    def do(self, line):
        """Does the deed of the line, or answers what it asks."""
        word, parts = read_line(line)
        values = self.values_of(parts)
        if word == "undo":
            return self.take_back()
        if word == "redo":
            return self.do_again()
        if word == "names":
            return show_list(sorted(self.kept))
        if word == "drop":
            return self.keep(parts[0][1], None)
        if parts[0][0] == "NEW":
            return self.keep(parts[0][1], made_by(word, values))
        return told_by(word, values)

    def values_of(self, parts):
        """The values of the parts but the new name, with what is kept in the place of an old name."""
        old = [(part, name) for part, name in parts if part in OLDS]
        for _, name in old:
            if name not in self.kept:
                raise NoName(f"nothing is kept under {name}")
        for part, name in old:
            if part != "OLD" and (part == "WEB") != is_web(self.kept[name]):
                raise WrongSort(f"what is kept under {name} is no {part.lower()}")
        return [self.kept[value] if part in OLDS else value for part, value in parts if part != "NEW"]

    def keep(self, name, thing):
        """Does a deed: from now on the thing is kept under the name, or nothing."""
        self.done.append((name, self.kept.get(name), thing))
        self.undone = []
        return self.put(name, thing)

    def take_back(self):
        """Takes the last deed back that is not taken back yet."""
        if not self.done:
            raise NoDeed("there is no deed to take back")
        deed = self.done.pop()
        self.undone.append(deed)
        name, ahead, _ = deed
        return self.put(name, ahead)

    def do_again(self):
        """Does the deed again that was taken back last."""
        if not self.undone:
            raise NoDeed("there is no deed to do again")
        deed = self.undone.pop()
        self.done.append(deed)
        name, _, behind = deed
        return self.put(name, behind)

    def put(self, name, thing):
        """Puts the thing under the name, or nothing, and says that this is done."""
        self.kept.pop(name, None)
        if thing is not None:
            self.kept[name] = thing
        return DONE
