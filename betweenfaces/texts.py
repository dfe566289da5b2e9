"""Axes, settings, rooms and designs, written as texts."""

from betweenfaces.rows import FullRow


def axis_text(axis):
    """The line of an axis."""
    return str(axis)


def setting_text(setting):
    """The words of a setting."""
    return str(setting)


def room_text(room):
    """The words of a room."""
    return str(room)


def design_text(design):
    """The lines of a design."""
    lines = [axis_text(axis) for axis in design.axes]
    for name in design:
        lines.extend(_letter_lines(name, design[name]))
    for pair, shift in design.pairs.items():
        lines.extend(_quantity_lines(f"pair {pair}", "shift", shift))
    return "\n".join(lines + [_swap_line(box, table) for box, table in design.swaps])


def _letter_lines(name, letter):
    """The lines of a letter: its width, its rounds, its parts and its rows."""
    lines = _quantity_lines(f"letter {name}", "wide", letter.width)
    lines.extend([" ".join(["round", *[_pair_text(point) for point in points]]) for points in letter.rounds])
    lines.extend([f"part {part} {_pair_text((x, y))}" for part, x, y in letter.parts])
    return lines + [_row_line(row) for row in letter.rows]


def _quantity_lines(head, word, quantity):
    """A line that begins with a head and tells the home number, and a line with a word ahead for each row."""
    return [f"{head} {quantity.home}"] + [f"{word} {delta} {reach}" for reach, delta in quantity.rows]


def _row_line(row):
    """The line of a row of a letter."""
    if isinstance(row, FullRow):
        return " ".join([f"full {row.reach}", *[_pair_text(move) for move in row.moves]])
    return " ".join([f"sparse {row.reach}", *[f"{spot}={_pair_text(move)}" for spot, move in row.moves]])


def _pair_text(pair):
    """A point or a move."""
    return f"{pair[0]},{pair[1]}"


def _swap_line(box, table):
    """The line of a swap."""
    words = ["swap", *[f"{name}>{table[name]}" for name in sorted(table)]]
    if box:
        words.extend(["in", *[f"{name}:{box[name][0]}..{box[name][1]}" for name in sorted(box)]])
    return " ".join(words)
