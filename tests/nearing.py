"""Lists near for tests: by chance, and of places each two near."""

import itertools


def some_near(chance, many, ties):
    """A list near of so many places, with so many ties at most."""
    pairs = list(itertools.combinations(range(many), 2))
    found = chance.sample(pairs, min(ties, len(pairs)))
    return [sorted([b for a, b in found if a == p] + [a for a, b in found if b == p]) for p in range(many)]


def full_near(many):
    """Each two places near."""
    return [[q for q in range(many) if q != p] for p in range(many)]
