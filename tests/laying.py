"""Drawings laid on one another, for tests: told straight from the words of point 45."""

import itertools

from checks import homes, hung_together, tie_places

# All of one part and of at most three ties.
FEW = ([[]], [[0, 1]], [[0], [1]], [[0, 2, 1, 3]], [[0, 3, 1, 2]], [[0, 1, 2, 3]], [[0, 2], [1, 3]],
       [[0, 2, 4], [1, 3, 5]], [[0, 2, 4], [1, 5, 3]], [[0, 1, 2], [3]], [[0], [1, 2], [3]], [[0, 2, 4, 1, 3, 5]],
       [[0, 1, 2, 3, 4, 5]], [[0, 2, 4], [1], [3], [5]], [[0, 2], [1, 4], [3, 5]])


def one_part(drawing):
    return len(hung_together(len(drawing), tie_places(drawing))) == 1


def behind_by_words(drawing):
    return {row[at - 1]: end for row in drawing for at, end in enumerate(row)}


def lays_by_words(one, two, lay):
    """Point 45: whether the list lays the one on the other, both of one part."""
    ends, goals = homes(one), homes(two)
    if not one_part(one) or not one_part(two) or len(lay) != len(ends) or sorted(lay) != sorted(goals):
        return False
    behind, beyond = behind_by_words(one), behind_by_words(two)
    return all(lay[end ^ 1] == lay[end] ^ 1 and lay[behind[end]] == beyond[lay[end]] for end in ends)


def all_lays(one, two):
    """All lists that lay the one on the other, looked for among all orders of the ends: so for few ties."""
    ends = range(len(homes(two)))
    if len(homes(one)) != len(ends):
        return []
    return [list(lay) for lay in itertools.permutations(ends) if lays_by_words(one, two, list(lay))]


def no_parts():
    """Drawings that are not of just one part."""
    return ([], [[], []], [[], [], []], [[0, 1], []], [[], [0, 2, 1, 3]], [[0, 1], [2, 3]], [[0], [1], []],
            [[0, 2, 1, 3], [4, 6, 5, 7]])
