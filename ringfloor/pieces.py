"""Pieces of webs: parts, blocks and rounds."""

from ringfloor.webs import near_places


def web_parts(web):
    """The parts of the web, as lists of places."""
    return groups(near_places(web), list(range(web[0])))


def parts_with_ties(web):
    """For each part of the web its places and its ties."""
    return [(part, [tie for tie in web[1] if tie[0] in part]) for part in web_parts(web)]


def web_blocks(web):
    """The blocks of the web, as lists of ties."""
    many, ties = web
    near = near_places(web)
    marks = {tie: tie for tie in ties}
    for place in range(many):
        others = [other for other in range(many) if other != place]
        for group in groups(near, others):
            # Some round goes along two ties at a place just where their other
            # places hang together without it; along a whole round each tie
            # and the one behind it are such, so this tells all of the block.
            mark_alike(marks, [tie for tie in ties if joins(tie, place, group)])
    blocks = {}
    for tie in ties:
        blocks.setdefault(marks[tie], []).append(tie)
    return list(blocks.values())


def web_girth(web):
    """The number of ties of a shortest round of the web, 0 where it has none."""
    many, ties = web
    near = near_places(web)
    girth = 0
    for one, other in ties:
        way = way_between(near, one, other, list(range(many)))
        if way and (girth == 0 or len(way) < girth):
            girth = len(way)
    return girth


def mark_alike(marks, ties):
    """Gives one mark to these ties and to all that are marked as one of them is."""
    found = [marks[tie] for tie in ties]
    for tie in list(marks):
        if marks[tie] in found:
            marks[tie] = found[0]


def joins(tie, place, group):
    """Whether the tie joins the place to one of the group."""
    one, other = tie
    return (one == place and other in group) or (other == place and one in group)


def groups(near, places):
    """The places, rising, parted into lists of those that hang together by ties between them."""
    waiting = {place: True for place in places}
    found = []
    for place in places:
        if place in waiting:
            found.append(sorted(drain(near, waiting, place)))
    return found


def drain(near, waiting, start):
    """Takes the start out of the waiting places, with all that hangs together with it there."""
    del waiting[start]
    group = [start]
    at = 0
    while at < len(group):
        here = group[at]
        for place in near[here]:
            if place in waiting:
                del waiting[place]
                group.append(place)
        at += 1
    return group


def way_between(near, start, goal, between):
    """A shortest way from start to goal by one of the places between or more, or None."""
    came = {start: start}
    line = [start]
    at = 0
    while at < len(line):
        here = line[at]
        for place in near[here]:
            if place == goal:
                if here != start:
                    return way_to(came, here) + [goal]
            elif place in between and place not in came:
                came[place] = here
                line.append(place)
        at += 1
    return None


def way_to(came, place):
    """The way to the place from the one that came from itself."""
    way = [place]
    while came[way[-1]] != way[-1]:
        way.append(came[way[-1]])
    return way[::-1]
