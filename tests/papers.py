"""Papers for lookers: such that keep the words, broken at any place, and any lists at all."""

import random

from checks import BELOW, BEYOND, HUGE

FAR = BELOW + BEYOND


def broken(chance, paper, count=12):
    """The list with an item changed, left out, put in, told twice, or with two changed about."""
    for _ in range(count if paper else 0):
        at, other = chance.randrange(len(paper)), chance.randrange(len(paper))
        yield paper[:at] + [paper[at] + chance.choice([-2, -1, 1, 2, 7])] + paper[at + 1:]
        yield paper[:at] + [chance.choice(FAR)] + paper[at + 1:]
        yield paper[:at] + paper[at + 1:]
        yield paper[:at] + [paper[at]] + paper[at:]
        yield paper[:at] + [paper[other]] + paper[at + 1:]
        swapped = list(paper)
        swapped[at], swapped[other] = swapped[other], swapped[at]
        yield swapped
    yield paper + [0]
    yield paper + [chance.choice(FAR)]
    yield paper[::-1]
    yield paper[1:] + paper[:1]
    yield paper + paper


def any_lists(chance, count=10):
    """Lists of any whole numbers, of up to 1,000."""
    yield []
    yield [0]
    for end in FAR:
        yield [end]
    yield [0] * 1000
    yield list(range(1000))
    yield [HUGE] * 1000
    for _ in range(count):
        size = chance.choice([2, 10, 1000, HUGE])
        yield [chance.randint(-size, size) for _ in range(chance.choice([1, 3, 8, 40]))]


def check_looker(case, looker, wanted, *args):
    """That the looker tells this truth, and no other thing, asked twice; what is handed in stays."""
    kept = repr(args)
    for _ in range(2):
        case.assertIs(looker(*args), wanted, f"{args!r:.400}")
    case.assertEqual(repr(args), kept)


def check_mixed(case, looker, papers, seed):
    """That the looker tells each paper's truth in whatever order they come."""
    told = [looker(*paper) for paper in papers]
    order = list(range(len(papers))) * 2
    random.Random(seed).shuffle(order)
    for at in order:
        case.assertIs(looker(*papers[at]), told[at])
    return told
