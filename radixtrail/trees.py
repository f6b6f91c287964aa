"""Trees of names with numbers, and what is done with one name or all of them.

A tree is None, a leaf ("leaf", rest, number) or a fork ("fork", shared, branches);
a branch is a pair (sign, tree), its sign empty where a name ends at the fork.
"""

from radixtrail.errors import NotThere
from radixtrail.forks import branches_behind, inner_of, placed, replaced
from radixtrail.words import common, rest


def found(tree, name):
    """The number that a name is kept with; None where it is not kept."""
    if tree is None:
        return None
    kind, text, held = tree
    behind = rest(name, text)
    if behind is None:
        return None
    if kind == "fork":
        return found(inner_of(held, behind[:1]), behind[1:])
    if behind == "":
        return held
    return None


def put(tree, name, number):
    """The tree with a name kept with a number, in the place of the one it had."""
    if tree is None or tree[:2] == ("leaf", name):
        return ("leaf", name, number)
    shared = common(tree[1], name)
    branches = branches_behind(tree, shared)
    behind = name[len(shared):]
    sign = behind[:1]
    inner = put(inner_of(branches, sign), behind[1:], number)
    return ("fork", shared, placed(branches, (sign, inner)))


def without(tree, name):
    """The tree without a name; NotThere where it is not kept."""
    if found(tree, name) is None:
        raise NotThere(f"the name {name!r} is not kept")
    return _less(tree, name)


def _less(tree, name):
    """The tree without a name that it keeps."""
    kind, text, held = tree
    if kind == "leaf":
        return None
    behind = name[len(text):]
    sign = behind[:1]
    return replaced(tree, sign, _less(inner_of(held, sign), behind[1:]))


def ahead(tree, beginning):
    """The tree of the names with a beginning put ahead of each."""
    if tree is None:
        return None
    kind, text, held = tree
    return (kind, beginning + text, held)


def names(tree):
    """All pairs (name, number), rising by names."""
    if tree is None:
        return []
    kind, text, held = tree
    if kind == "leaf":
        return [(text, held)]
    pairs = []
    for sign, inner in held:
        pairs.extend([(text + sign + name, number) for name, number in names(inner)])
    return pairs


def knots(tree):
    """All knots as pairs (text, many), a fork ahead of what is in its branches."""
    if tree is None:
        return []
    kind, text, held = tree
    if kind == "leaf":
        return [(text, 0)]
    pairs = [(text, len(held))]
    for sign, inner in held:
        pairs.extend([(text + sign + behind, many) for behind, many in knots(inner)])
    return pairs
