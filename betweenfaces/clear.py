"""Whether neighbouring letters of a text stay clear of each other."""

from betweenfaces.asking import check_text, ends_of, is_setting
from betweenfaces.gaps import GapTable, gap_at
from betweenfaces.ratios import Ratio, is_integer
from betweenfaces.settings import Setting
from betweenfaces.sheets import Shelf


def clear(design, text, gap):
    """None if all neighbours are clear by a gap; otherwise a setting and the index of a letter that is not."""
    check_text(design.stock, text)
    shelf = Shelf(design.stock)
    looked_at = {}
    for index in range(len(text) - 1):
        pair = text[index:index + 2]
        if pair not in looked_at:
            looked_at[pair] = True
            table = GapTable(shelf, pair)
            places = table.places_within(Ratio.of(gap))
            if places is not None:
                return Setting.of(places), index
    return None


def check_touch(design, text, gap, thing):
    """Whether any value is a tuple of a setting and the index of a letter that is not clear there of the next one."""
    check_text(design.stock, text)
    if not isinstance(thing, tuple) or len(thing) != 2:
        return False
    setting, index = thing
    if not is_setting(ends_of(design.stock.scales), setting):
        return False
    if not is_integer(index) or not 0 <= index < len(text) - 1:
        return False
    own = gap_at(design.stock, text[index:index + 2], setting)
    return own is not None and own.under(Ratio.of(gap))
