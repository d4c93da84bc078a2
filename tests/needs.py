"""What the tests of needs share: names, and needs made by a chance that is the same each time."""

import itertools

SMALL_LETTERS = "abcdefghijklmnopqrstuvwxyz"


def names_of(many):
    """So many different names, in the order of the alphabet."""
    letters = itertools.islice(itertools.product(SMALL_LETTERS, repeat=3), many)
    return ["".join(three) for three in letters]


def any_needs(chance, names, others, most):
    """Some needs of each of the names, among these and others; some stand twice."""
    return {name: [chance.choice(names + others) for _ in range(chance.randint(0, most))]
            for name in names}
