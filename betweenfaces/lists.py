"""Lists: what is passed to a parameter with a star, and what is chosen from lists."""


def entries_of(values):
    """The list of some values, in which each list that is among them stands for its entries."""
    entries = []
    for value in values:
        if isinstance(value, list):
            entries.extend(value)
        else:
            entries.append(value)
    return entries


def number_of(items, item):
    """The number of the first item of a list that equals this one, which it has."""
    return [at for at, one in enumerate(items) if one == item][0]


def choices_of(lists):
    """The list of the tuples with an item of each list, the last one changing fastest."""
    told = [()]
    for items in lists:
        told = [(*chosen, item) for chosen in told for item in items]
    return told


def without_item(items, at):
    """A tuple of the items of a list or tuple but the one at an index."""
    return (*items[:at], *items[at + 1:])


def with_item(items, at, item):
    """A tuple of the items of a list or tuple, with one more at an index."""
    return (*items[:at], item, *items[at:])
