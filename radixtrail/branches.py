"""Whole branches of trees: cut off, joined, moved and copied."""

from radixtrail.errors import NotThere, Taken
from radixtrail.forks import branches_behind, inner_of, placed, replaced
from radixtrail.trees import ahead
from radixtrail.words import common, rest


def cut(tree, beginning):
    """The tree of the names that don't begin so, and that of the others without the beginning."""
    if tree is None:
        return (None, None)
    kind, text, held = tree
    behind = rest(text, beginning)
    if behind is not None:
        return (None, (kind, behind, held))
    behind = rest(beginning, text)
    if kind == "leaf" or behind is None:
        return (tree, None)
    sign = behind[:1]
    left, taken = cut(inner_of(held, sign), behind[1:])
    return (replaced(tree, sign, left), taken)


def joined(one, other):
    """The tree of the names of two trees; Taken where both keep the same name."""
    if one is None:
        return other
    if other is None:
        return one
    if one[0] == "leaf" and one[:2] == other[:2]:
        raise Taken("a name would be kept twice")
    shared = common(one[1], other[1])
    branches = branches_behind(one, shared)
    for sign, inner in branches_behind(other, shared):
        branches = placed(branches, (sign, joined(inner_of(branches, sign), inner)))
    return ("fork", shared, branches)


def moved(tree, beginning, other):
    """The tree where the names that begin so have another text in the beginning's place."""
    left, taken = _parted(tree, beginning)
    return joined(left, ahead(taken, other))


def copied(tree, beginning, other):
    """The tree where the names that begin so are kept under another text, too."""
    _, taken = _parted(tree, beginning)
    return joined(tree, ahead(taken, other))


def _parted(tree, beginning):
    """The pair that cut tells; NotThere where no name begins so."""
    left, taken = cut(tree, beginning)
    if taken is None:
        raise NotThere(f"no name begins with {beginning!r}")
    return (left, taken)
