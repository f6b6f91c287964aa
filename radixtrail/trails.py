"""Trails: a tree that is changed by deeds, each of which can be taken back."""

from radixtrail.asking import many, under
from radixtrail.branches import copied, cut, moved
from radixtrail.errors import NoName, NotThere, NothingDone, TooLong, TooMany
from radixtrail.trees import found, names, put, without
from radixtrail.words import MOST_SIGNS, is_name

MOST_NAMES = 100


class Trail:
    """A tree of names, and the way back through the deeds that made it."""

    def __init__(self):
        self._now = None
        # No function changes a tree, so the trees ahead of the deeds are kept as they are.
        self._earlier = []

    def keep(self, name, number):
        """Puts a name; answers the number that it had, None where it was not kept."""
        _refuse_no_names([name])
        had = found(self._now, name)
        self._do(_of_size(put(self._now, name, number)))
        return had

    def drop(self, name):
        """Takes a name out; answers its number."""
        _refuse_no_names([name])
        had = found(self._now, name)
        self._do(without(self._now, name))
        return had

    def prune(self, beginning):
        """Takes all names under a beginning out; answers how many these were."""
        _refuse_no_names([beginning])
        left, taken = cut(self._now, beginning)
        if taken is None:
            raise NotThere("no name is under the beginning")
        self._do(left)
        return len(names(taken))

    def move(self, beginning, other):
        """Puts another text in the place of a beginning; answers how many names moved."""
        _refuse_no_names([beginning, other])
        _refuse_long_names(self._now, beginning, other)
        moving = many(self._now, beginning)
        self._do(moved(self._now, beginning, other))
        return moving

    def graft(self, beginning, other):
        """Keeps the names under a beginning under another text, too; answers how many."""
        _refuse_no_names([beginning, other])
        _refuse_long_names(self._now, beginning, other)
        copying = many(self._now, beginning)
        self._do(_of_size(copied(self._now, beginning, other)))
        return copying

    def back(self):
        """Takes back the last deed that is not taken back yet."""
        if not self._earlier:
            raise NothingDone("there is no deed to take back")
        self._now = self._earlier.pop()

    def told(self, beginning):
        """The pairs (name, number) of all names under a beginning, rising."""
        _refuse_no_names([beginning])
        return under(self._now, beginning)

    def tree(self):
        """The tree as it is now."""
        return self._now

    def size(self):
        """How many names are kept."""
        return len(names(self._now))

    def _do(self, tree):
        """Puts a new tree in the place of the present one, as one deed."""
        self._earlier.append(self._now)
        self._now = tree


def _refuse_no_names(things):
    """NoName where one of some things is no name."""
    for thing in things:
        # The message leaves the thing out: not everything can be shown.
        if not is_name(thing):
            raise NoName("a text of at most 40 signs of names is needed")


def _refuse_long_names(tree, beginning, other):
    """TooLong where a name under a beginning would be too long under another text."""
    for name, _ in under(tree, beginning):
        if len(other) + len(name) - len(beginning) > MOST_SIGNS:
            raise TooLong("a new name would have too many signs")


def _of_size(tree):
    """The tree itself; TooMany where it keeps too many names."""
    if len(names(tree)) > MOST_NAMES:
        raise TooMany("too many names would be kept")
    return tree
