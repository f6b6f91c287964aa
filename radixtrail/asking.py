"""Questions to trees: what is under a beginning, and which names are near a text."""

from radixtrail.branches import cut
from radixtrail.forks import inner_of
from radixtrail.trees import names
from radixtrail.words import rest


def under(tree, beginning):
    """The pairs (name, number) of all names that begin so, rising."""
    return [(beginning + behind, number) for behind, number in names(_below(tree, beginning))]


def many(tree, beginning):
    """How many names begin so."""
    return len(names(_below(tree, beginning)))


def longest(tree, text):
    """The longest kept name with which a text begins; None where there is none."""
    if tree is None:
        return None
    kind, shared, held = tree
    behind = rest(text, shared)
    if behind is None:
        return None
    if kind == "leaf":
        return shared
    # The name that ends at the fork itself is the last choice, as it is the shortest.
    for sign in (behind[:1], ""):
        inner = longest(inner_of(held, sign), behind[1:])
        if inner is not None:
            return shared + sign + inner
    return None


def after(tree, text):
    """The first kept name behind a text; None where there is none."""
    for name, _ in names(tree):
        if name > text:
            return name
    return None


def common_of(tree, beginning):
    """The longest text with which all names that begin so begin; None where there is none."""
    below = _below(tree, beginning)
    if below is None:
        return None
    return beginning + below[1]


def next_signs(tree, beginning):
    """What can stand behind a beginning: signs, rising, the empty text ahead of them."""
    below = _below(tree, beginning)
    if below is None:
        return []
    kind, text, held = below
    if kind == "leaf" or text != "":
        return [text[:1]]
    return [sign for sign, _ in held]


def _below(tree, beginning):
    """The tree of what stands behind a beginning in the names that begin so."""
    _, taken = cut(tree, beginning)
    return taken
