"""What a design is made of, for all modules that draw, change or compare designs."""


class Stock:
    """The axes and letters of a design, ascending, its shifts by pairs, and its swaps in order."""

    def __init__(self, scales, glyphs, shifts, rules):
        self.scales = scales
        self.glyphs = glyphs
        self.shifts = shifts
        self.rules = rules

    def inner(self, places):
        """A dict of the inner places, from the told places of a Setting or a dict."""
        return {axis.name: axis.inner(places[axis.name]) for axis in self.scales}

    def drawn_as(self, inner, text):
        """The letters that the letters of a text are drawn as at inner places."""
        tables = [table for box, table in self.rules if _holds(box, inner)]
        return "".join([_led(tables, name) for name in text])

    def may_be(self, name):
        """The ascending list of the letters that a letter may be drawn as."""
        return sorted(set([name, *[table[name] for _, table in self.rules if name in table]]))

    def boxes(self, thing):
        """The list of the boxes of the swaps whose tables have a letter of a thing."""
        return [box for box, table in self.rules if any([name in table for name in thing])]

    def with_parts(self, names):
        """The ascending list of some letters and of those of their parts, directly or by way of others."""
        reached = {}
        waiting = list(names)
        while waiting:
            name = waiting.pop()
            if name not in reached:
                reached[name] = True
                waiting.extend([part for part, _, _ in self.glyphs[name].parts])
        return sorted(reached)

    def reaches(self, thing):
        """The list of the reaches that the value of a thing may depend on."""
        if len(thing) == 2:
            shifts = [self.shifts[pair] for pair in self.pairs_may_be(thing) if pair in self.shifts]
            return [reach for shift in shifts for reach, _ in shift.rows]
        drawn = self.may_be(thing)
        widths = [reach for name in drawn for reach, _ in self.glyphs[name].width.rows]
        return widths + [row.reach for name in self.with_parts(drawn) for row in self.glyphs[name].rows]

    def width_reaches(self, text):
        """The list of the reaches that the width of a text may depend on."""
        names = sorted(set([name for sign in sorted(set(text)) for name in self.may_be(sign)]))
        widths = [reach for name in names for reach, _ in self.glyphs[name].width.rows]
        pairs = sorted(set([before + behind for before, behind in zip(text, text[1:])]))
        return widths + [reach for pair in pairs for reach in self.reaches(pair)]

    def pairs_may_be(self, pair):
        """The list of the pairs of the letters that the two letters of a pair may be drawn as."""
        return [one + other for one in self.may_be(pair[0]) for other in self.may_be(pair[1])]

    def has_shift(self, pair):
        """Whether a pair may be drawn as one that has a shift."""
        return any([drawn in self.shifts for drawn in self.pairs_may_be(pair)])

    def all_reaches(self):
        """The list of all reaches of the design."""
        reaches = [reach for shift in self.shifts.values() for reach, _ in shift.rows]
        for letter in self.glyphs.values():
            reaches = reaches + [row.reach for row in letter.rows] + [reach for reach, _ in letter.width.rows]
        return reaches


def _holds(box, inner):
    """Whether inner places lie in all stretches of a box."""
    for name, (low, high) in box.items():
        if inner[name].under(low) or high.under(inner[name]):
            return False
    return True


def _led(tables, name):
    """The letter to which the first table that has a letter leads it."""
    for table in tables:
        if name in table:
            return table[name]
    return name
