"""Whether any values are what a design is made of."""

from betweenfaces.axes import Axis
from betweenfaces.letters import Letter, is_letter_name
from betweenfaces.quantities import Quantity
from betweenfaces.ratios import Ratio


def are_axes(value):
    """Whether any value is a list or tuple of axes, no two of which have one name."""
    if not isinstance(value, (list, tuple)) or not all([isinstance(axis, Axis) for axis in value]):
        return False
    return len(set([axis.name for axis in value])) == len(value)


def are_letters(value):
    """Whether any value is a dict of letters, one at least."""
    if not isinstance(value, dict) or not all([is_letter_name(name) for name in value]):
        return False
    return len(value) > 0 and all([isinstance(letter, Letter) for letter in value.values()])


def are_parts_right(letters):
    """Whether all parts are letters of a dict of letters, and none of these has itself as a part."""
    left = {name: [part for part, _, _ in letter.parts] for name, letter in letters.items()}
    if not all([part in letters for parts in left.values() for part in parts]):
        return False
    while left:
        # A letter all of whose parts are settled is settled; if there is none, some go around.
        settled = [name for name, parts in left.items() if not any([part in left for part in parts])]
        if not settled:
            return False
        left = {name: parts for name, parts in left.items() if name not in settled}
    return True


def are_pairs(value, letters):
    """Whether any value is a dict of shifts by pairs of letters."""
    if not isinstance(value, dict) or not all([_is_pair(pair, letters) for pair in value]):
        return False
    return all([isinstance(shift, Quantity) for shift in value.values()])


def are_swaps(value, axes, letters):
    """Whether any value is a list or tuple of swaps of a design with these axes and letters."""
    return isinstance(value, (list, tuple)) and all([_is_swap(swap, axes, letters) for swap in value])


def are_reaches(reaches, axes):
    """Whether reaches fit axes."""
    return all([reach.fits(axes) for reach in reaches])


def _is_pair(value, letters):
    """Whether any value is a string of two letters."""
    return isinstance(value, str) and len(value) == 2 and value[0] in letters and value[1] in letters


def _is_swap(value, axes, letters):
    """Whether any value is a tuple of a box on these axes and a table of these letters."""
    if not isinstance(value, tuple) or len(value) != 2:
        return False
    box, table = value
    if not isinstance(box, dict) or not isinstance(table, dict) or not table:
        return False
    if not all([isinstance(name, str) and name in letters for name in list(table) + list(table.values())]):
        return False
    return all([_is_stretch(name, stretch, axes) for name, stretch in box.items()])


def _is_stretch(name, value, axes):
    """Whether any two values are the name of an axis and a stretch of its inner places."""
    if not isinstance(value, tuple) or len(value) != 2:
        return False
    held = [axis.holds(value[0]) and axis.holds(value[1]) for axis in axes if axis.name == name]
    return held == [True] and not Ratio.of(value[1]).under(Ratio.of(value[0]))
