"""Plans: tunings of few bands by which all are heard, and trees that there is none."""

from wavehall.airs import LAST_BAND, SILENCE, all_heard, check_size, ears_of, first_unheard, hears, names_of
from wavehall.kinds import is_tuple_of

MOST_PLANNED = 5
MOST_IN_TREE = 4


def begun(ears, bands):
    """The tuning of those that have a band so far, others being silent."""
    return bands + (SILENCE,) * (len(ears) - len(bands))


def first_plan(ears, many, bands):
    """The first plan that begins with these bands; None where none does."""
    # Who isn't heard so far won't be when more send, too.
    if not all_heard(ears, begun(ears, bands)):
        return None
    if len(bands) == len(ears):
        return bands
    for band in range(1, many + 1):
        found = first_plan(ears, many, (*bands, band))
        if found is not None:
            return found
    return None


def plan(air, many):
    """The first plan of so many bands; None where there is none."""
    check_size(air, MOST_PLANNED)
    return first_plan(ears_of(air), many, ())


def fewest(air):
    """The least many bands for which there is a plan, with the first plan of so many."""
    check_size(air, MOST_PLANNED)
    ears = ears_of(air)
    many = 1
    found = first_plan(ears, many, ())
    # So many stations need no two bands side by side where there are nine.
    while found is None and many < LAST_BAND:
        many += 1
        found = first_plan(ears, many, ())
    return (many, found)


def tree_behind(ears, names, many, bands):
    """A tree that no plan begins with these bands; None where one does."""
    at = first_unheard(ears, begun(ears, bands))
    if at is not None:
        return ("shut", names[at])
    if len(bands) == len(ears):
        return None
    trees = []
    for band in range(1, many + 1):
        behind = tree_behind(ears, names, many, (*bands, band))
        if behind is None:
            return None
        trees.append(behind)
    return ("bands", tuple(trees))


def tree(air, many):
    """A tree that there is no plan of so many bands; None where there is one."""
    check_size(air, MOST_IN_TREE)
    return tree_behind(ears_of(air), names_of(air[0]), many, ())


def is_shut(ears, names, bands, thing):
    """Whether thing is the name of one that has a band so far and isn't heard."""
    for name, band, one_ear in zip(names, bands, ears):
        if name == thing:
            return not hears(one_ear, band, begun(ears, bands))
    return False


def is_tree_behind(ears, names, many, bands, thing):
    """Whether thing is a tree that no plan begins with these bands."""
    if not is_tuple_of(thing, 2):
        return False
    word, part = thing
    if word == "shut":
        return is_shut(ears, names, bands, part)
    if word != "bands" or len(bands) == len(ears) or not is_tuple_of(part, many):
        return False
    return all(
        is_tree_behind(ears, names, many, (*bands, at + 1), behind)
        for at, behind in enumerate(part)
    )


def is_tree(air, many, thing):
    """Whether thing is a tree that there is no plan of so many bands."""
    check_size(air, MOST_IN_TREE)
    return is_tree_behind(ears_of(air), names_of(air[0]), many, (), thing)
