"""The kinds of values that all points share: whole numbers, names, pairs, fractions, copies."""

NAME_LENGTH = 8


def is_number(thing):
    """Whether thing is a whole number, whichever."""
    # Truths are numbers to Python, but none to us.
    return isinstance(thing, int) and not isinstance(thing, bool)


def is_whole(thing, low, high):
    """Whether thing is a whole number from low to high."""
    return is_number(thing) and low <= thing <= high


def is_name(thing):
    """Whether thing is a text of 1 to 8 small letters."""
    if not isinstance(thing, str) or not 1 <= len(thing) <= NAME_LENGTH:
        return False
    return all("a" <= sign <= "z" for sign in thing)


def is_tuple_of(thing, many):
    """Whether thing is a tuple of so many things."""
    return isinstance(thing, tuple) and len(thing) == many


def is_rising(things):
    """Whether things that can be compared stand in order, none twice."""
    return all(one < other for one, other in zip(things, things[1:]))


def copied(thing):
    """The thing, with each list in it, however deep, made anew."""
    if isinstance(thing, list):
        return [copied(part) for part in thing]
    if isinstance(thing, tuple):
        return tuple([copied(part) for part in thing])
    return thing


def common_divisor(one, other):
    """The greatest number that divides both."""
    while other != 0:
        one, other = other, one % other
    return one


def fraction(top, bottom):
    """top by bottom, without a common divisor but 1."""
    common = common_divisor(top, bottom)
    if common == 0:
        # Only numbers beyond the bounds lead here, and they must not end in an error.
        return (top, bottom)
    return (top // common, bottom // common)


def total(fractions):
    """All the fractions together; (0, 1) of none."""
    top, bottom = 0, 1
    for more_top, more_bottom in fractions:
        top, bottom = fraction(top * more_bottom + more_top * bottom, bottom * more_bottom)
    return (top, bottom)
