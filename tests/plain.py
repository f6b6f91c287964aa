"""What the document says of trees, told anew and slowly, for the tests to compare with.

Names are kept here in a plain dict of names and numbers.
"""

from itertools import combinations, product
from os.path import commonprefix

SIGNS = [chr(place) for place in range(32, 127) if place != 37]
LARGEST = 10 ** 60 - 1


def leaf(text, number):
    return ("leaf", text, number)


def tree_of(kept):
    """The one tree of the names of a dict, straight from [3] and [4]."""
    if not kept:
        return None
    if len(kept) == 1:
        ((name, number),) = kept.items()
        return leaf(name, number)
    shared = commonprefix(list(kept))
    by_sign = {}
    for name, number in kept.items():
        behind = name[len(shared):]
        by_sign.setdefault(behind[:1], {})[behind[1:]] = number
    branches = [(sign, tree_of(by_sign[sign])) for sign in sorted(by_sign)]
    return ("fork", shared, tuple(branches))


def knots_of(kept):
    """The knots of the tree of a dict: its names, and the texts where names part."""
    rows = [(name, 0) for name in kept]
    for shared in {commonprefix(pair) for pair in combinations(kept, 2)}:
        signs = {name[len(shared):][:1] for name in kept if name.startswith(shared)}
        rows.append((shared, len(signs)))
    # A fork and the name that ends at it have the same text; the fork comes first.
    return sorted(rows, key=lambda row: (row[0], -row[1]))


def texts(signs, most):
    """All texts of some signs, of at most so many of them."""
    return ["".join(row) for many in range(most + 1) for row in product(signs, repeat=many)]


def dicts(some):
    """A dict of names and numbers for each choice of some names, none and all too."""
    numbers = {name: place - len(some) // 2 for place, name in enumerate(some)}
    for many in range(len(some) + 1):
        for chosen in combinations(some, many):
            yield {name: numbers[name] for name in chosen}


def orders(some):
    """Some names in a few orders that differ much."""
    rising = sorted(some)
    half = len(rising) // 2
    woven = [name for at in range(7) for name in rising[at::7]]
    inside_out = sorted(rising, key=lambda name: abs(rising.index(name) - half))
    return [rising, rising[::-1], woven, woven[::-1], inside_out, inside_out[::-1]]


def many_names(many):
    """So many names of 0 to 40 signs, of which a lot begin alike."""
    made = {"": 0}
    at = 1
    while len(made) < many:
        name = "".join(SIGNS[at * step % 5 * 20] for step in range(1, at % 11 + 1))
        name = name * (1 + at % 4)
        made[(name + str(at * at % 113))[:40]] = at - many // 2
        at += 1
    return made


def chain(many):
    """The empty name and so many more, each the beginning of the next."""
    return {"a" * at: at for at in range(many + 1)}
