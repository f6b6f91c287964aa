"""Names, and what two texts have to do with each other."""

MOST_SIGNS = 40

# The percent sign by its number: the rules of the code keep it out of strings.
_PERCENT = 37


def is_name(thing):
    """Whether a thing is a name: a text of at most MOST_SIGNS signs of names."""
    if not isinstance(thing, str) or len(thing) > MOST_SIGNS:
        return False
    return all([_is_sign(sign) for sign in thing])


def _is_sign(sign):
    """Whether a text of one sign may stand in a name."""
    return " " <= sign <= "~" and ord(sign) != _PERCENT


def common(one, other):
    """The longest text with which two texts begin."""
    many = 0
    for sign, other_sign in zip(one, other):
        if sign != other_sign:
            break
        many += 1
    return one[:many]


def rest(name, beginning):
    """What stands in a name behind a beginning; None where it does not begin so."""
    if not name.startswith(beginning):
        return None
    return name[len(beginning):]
