"""The lines of a design's text, read and then made into a design."""

from betweenfaces.axes import Axis, axis_told, is_axis_name
from betweenfaces.designs import Design
from betweenfaces.letters import Letter, is_letter_name
from betweenfaces.linewords import Line
from betweenfaces.lists import number_of
from betweenfaces.quantities import Quantity
from betweenfaces.rows import FullRow, SparseRow
from betweenfaces.tents import Reach, Tent
from betweenfaces.words import numbers_in

# A line that begins with one of these words begins a group; groups come in this order.
HEADS = ("axis", "letter", "pair", "swap")
# In which group a line that begins with another word stands.
OWNERS = {"wide": "letter", "round": "letter", "part": "letter", "full": "letter", "sparse": "letter", "shift": "pair"}


def design_of(lines):
    """The design that is told by some lines."""
    # All words are looked at ahead of what the classes refuse.
    return _made(_groups_of(lines))


def _axis(line):
    """What the line of an axis tells."""
    return axis_told(line.words, line.index)


def _letter(line):
    """What a letter line tells: the name and the width at home."""
    told = line.letters(1), line.number()
    line.stop()
    return told


def _pair(line):
    """What a pair line tells: the pair and the shift at home."""
    told = line.letters(2), line.number()
    line.stop()
    return told


def _delta(line):
    """What the line of a row of a quantity tells: the number and the reach."""
    told = line.number(), line.next_reach()
    line.stop()
    return told


def _round(line):
    """The points of a round, one at least."""
    line.check(line.has_more())
    return line.points()


def _part(line):
    """What the line of a part tells."""
    name, offset = line.letters(1), line.point()
    line.stop()
    return name, offset[0], offset[1]


def _full(line):
    """What the line of a full row tells: the reach and the moves."""
    return line.next_reach(), line.points()


def _sparse(line):
    """What the line of a sparse row tells: the reach and the moves of the touched spots."""
    return line.next_reach(), line.touched()


def _swap(line):
    """What the line of a swap tells: the box and the table."""
    table = {}
    while not table or (line.has_more() and line.next_word() != "in"):
        word = line.next_word()
        is_entry = len(word) == 3 and word[1] == ">" and is_letter_name(word[0]) and is_letter_name(word[2])
        line.go_on(is_entry and word[0] not in table)
        table[word[0]] = word[2]
    if not line.has_more():
        return {}, table
    line.go_on(True)
    box = {}
    while not box or line.has_more():
        name, _, behind = line.next_word().partition(":")
        numbers = numbers_in(behind, "..")
        line.go_on(is_axis_name(name) and name not in box and len(numbers) == 2)
        box[name] = tuple(numbers)
    return box, table


READERS = {"axis": _axis, "letter": _letter, "pair": _pair, "swap": _swap, "wide": _delta, "shift": _delta,
           "round": _round, "part": _part, "full": _full, "sparse": _sparse}


def _groups_of(lines):
    """The list of the groups: the word of each, what its first line tells, and (word, what it tells) for its others."""
    groups = []
    named = {}
    for index, text in enumerate(lines):
        line = Line(index, text.split(" "))
        word = line.next_word()
        line.go_on(_may_follow(word, groups[-1][0] if groups else ""))
        if word in HEADS[:3] and line.has_more():
            line.check((word, line.next_word()) not in named)
            named[(word, line.next_word())] = True
        reads = READERS[word]
        told = reads(line)
        if word in HEADS:
            groups.append((word, told, []))
        else:
            groups[-1][2].append((word, told))
    return groups


def _may_follow(word, head):
    """Whether a line that begins with a word may stand in, or behind, a group that begins with this head."""
    if word in OWNERS:
        return OWNERS[word] == head
    return word in HEADS and (head == "" or number_of(HEADS, head) <= number_of(HEADS, word))


def _made(groups):
    """The design that groups tell."""
    axes = []
    letters = {}
    pairs = {}
    swaps = []
    for head, told, rows in groups:
        if head == "axis":
            name, places, knots = told
            axes.append(Axis(name, least=places[0], home=places[1], most=places[2], bend=knots))
        elif head == "letter":
            letters[told[0]] = _made_letter(told[1], rows)
        elif head == "pair":
            pairs[told[0]] = Quantity.of(told[1], [(_made_reach(reach), delta) for _, (delta, reach) in rows])
        else:
            swaps.append(told)
    return Design(axes, letters, pairs=pairs, swaps=swaps)


def _made_letter(width, told):
    """The letter of a width at home and of the lines behind its first one."""
    deltas = []
    rounds = []
    parts = []
    rows = []
    for word, one in told:
        if word == "wide":
            deltas.append((_made_reach(one[1]), one[0]))
        elif word == "round":
            rounds.append(one)
        elif word == "part":
            parts.append(one)
        elif word == "full":
            rows.append(FullRow(_made_reach(one[0]), one[1]))
        else:
            rows.append(SparseRow(_made_reach(one[0]), one[1]))
    return Letter.of(Quantity.of(width, deltas), rounds, parts, rows)


def _made_reach(told):
    """The reach of a dict from names to the three numbers of tents."""
    tents = {}
    for name in sorted(told):
        start, peak, end = told[name]
        tents[name] = Tent(start, peak, end)
    return Reach.of(tents)
