"""Notes: trees written as texts, a row for each name, and read again."""

from radixtrail.errors import NoNote
from radixtrail.trees import names, put
from radixtrail.words import is_name

MOST_FIGURES = 60


def written(tree):
    """A text with a row for each name, rising: its number, a blank, the name, a line end."""
    return "".join([f"{number} {name}\n" for name, number in names(tree)])


def read(text):
    """The tree of a text that written tells; NoNote where it is not of that form."""
    rows = text.split("\n")
    if rows[-1] != "":
        raise NoNote("the last row has no line end")
    tree = None
    last = None
    for row in rows[:-1]:
        name, number = _row(row)
        if last is not None and name <= last:
            raise NoNote("a name is not behind the one of the row ahead of it")
        tree = put(tree, name, number)
        last = name
    return tree


def _row(row):
    """The name and the number of a row without its line end."""
    figures, blank, name = row.partition(" ")
    if blank == "":
        raise NoNote("a row has no blank")
    if not _is_number(figures):
        raise NoNote("a row does not begin with a number")
    if not is_name(name):
        raise NoNote("what is behind the first blank of a row is no name")
    return (name, int(figures))


def _is_number(text):
    """Whether a text is a whole number as written tells it, of at most MOST_FIGURES figures."""
    # int() would take more than these, and Python bars it from texts of thousands of figures.
    figures = text.removeprefix("-")
    if not all(["0" <= sign <= "9" for sign in figures]):
        return False
    if figures[:1] == "0":
        return text == "0"
    return 1 <= len(figures) <= MOST_FIGURES
