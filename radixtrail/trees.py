"""Trees of names with numbers, and what is done with one name or all of them.

A tree is None, a leaf ("leaf", rest, number) or a fork ("fork", shared, branches);
a branch is a pair (sign, tree), its sign empty where a name ends at the fork.
"""

from radixtrail.errors import NotThere
from radixtrail.words import common, rest


def found(tree, name):
    """The number that a name is kept with; None where it is not kept."""
    if tree is None:
        return None
    kind, text, held = tree
    behind = rest(name, text)
    if behind is None:
        return None
    if kind == "fork":
        return found(_inner(held, behind[:1]), behind[1:])
    if behind == "":
        return held
    return None


def put(tree, name, number):
    """The tree with a name kept with a number, in the place of the one it had."""
    leaf = ("leaf", name, number)
    if tree is None:
        return leaf
    kind, text, held = tree
    shared = common(text, name)
    if kind == "fork" and shared == text:
        behind = name[len(shared):]
        sign = behind[:1]
        inner = put(_inner(held, sign), behind[1:], number)
        return ("fork", shared, _placed(held, (sign, inner)))
    if text == name:
        return leaf
    return ("fork", shared, _placed((_branch(tree, shared),), _branch(leaf, shared)))


def without(tree, name):
    """The tree without a name; NotThere where it is not kept."""
    if found(tree, name) is None:
        raise NotThere(f"the name {name!r} is not kept")
    return _less(tree, name)


def ahead(tree, beginning):
    """The tree of the names with a beginning put ahead of each."""
    if tree is None:
        return None
    kind, text, held = tree
    return (kind, beginning + text, held)


def names(tree):
    """All pairs (name, number), rising by names."""
    if tree is None:
        return []
    kind, text, held = tree
    if kind == "leaf":
        return [(text, held)]
    pairs = []
    for sign, inner in held:
        pairs.extend([(text + sign + name, number) for name, number in names(inner)])
    return pairs


def knots(tree):
    """All knots as pairs (text, many), a fork ahead of what is in its branches."""
    if tree is None:
        return []
    kind, text, held = tree
    if kind == "leaf":
        return [(text, 0)]
    pairs = [(text, len(held))]
    for sign, inner in held:
        pairs.extend([(text + sign + behind, many) for behind, many in knots(inner)])
    return pairs


def _less(tree, name):
    """The tree without a name that it keeps."""
    kind, text, held = tree
    if kind == "leaf":
        return None
    behind = name[len(text):]
    sign = behind[:1]
    inner = _less(_inner(held, sign), behind[1:])
    if inner is not None:
        return ("fork", text, _placed(held, (sign, inner)))
    return _knot(text, [branch for branch in held if branch[0] != sign])


def _knot(shared, branches):
    """The tree of a fork's branches, of which one alone may be left."""
    if len(branches) > 1:
        return ("fork", shared, tuple(branches))
    # No fork has a single branch: what the last one keeps takes its place.
    sign, inner = branches[0]
    return ahead(inner, shared + sign)


def _branch(tree, beginning):
    """A tree as a branch behind a text with which all its names begin."""
    kind, text, held = tree
    behind = text[len(beginning):]
    return (behind[:1], (kind, behind[1:], held))


def _inner(branches, sign):
    """The tree in the branch with a sign; None where there is no such branch."""
    for own_sign, tree in branches:
        if own_sign == sign:
            return tree
    return None


def _placed(branches, branch):
    """The branches with one more, in the place of the one with its sign, if any."""
    sign = branch[0]
    lower = [pair for pair in branches if pair[0] < sign]
    higher = [pair for pair in branches if pair[0] > sign]
    return tuple(lower + [branch] + higher)
