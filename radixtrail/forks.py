"""The branches of forks: found, placed and taken out, for the modules about trees."""


def inner_of(branches, sign):
    """The tree in the branch with a sign; None where there is no such branch."""
    for own_sign, tree in branches:
        if own_sign == sign:
            return tree
    return None


def placed(branches, branch):
    """The branches with one more, in the place of the one with its sign, if any."""
    sign = branch[0]
    lower = [pair for pair in branches if pair[0] < sign]
    higher = [pair for pair in branches if pair[0] > sign]
    return tuple(lower + [branch] + higher)


def branches_behind(tree, beginning):
    """The branches of a tree behind a text with which all its names begin."""
    kind, text, held = tree
    if kind == "fork" and text == beginning:
        return held
    behind = text[len(beginning):]
    return ((behind[:1], (kind, behind[1:], held)),)


def replaced(fork, sign, inner):
    """The tree of a fork whose branch with a sign now has another tree, or is gone for None."""
    _, shared, branches = fork
    if inner is not None:
        return ("fork", shared, placed(branches, (sign, inner)))
    left = [branch for branch in branches if branch[0] != sign]
    if len(left) > 1:
        return ("fork", shared, tuple(left))
    # No fork has a single branch: what the last one keeps takes its place.
    last_sign, (kind, text, held) = left[0]
    return (kind, shared + last_sign + text, held)
