"""The greatest and the least width of a text, and whether it is met."""

from betweenfaces.grids import corners_of
from betweenfaces.lists import choices_of


def extreme(table, sign):
    """The greatest width of a text, or with the sign -1 the least one: (value, dict of places, whether it is met).

    If no setting has this width, it is continued to these places from a cell.
    """
    cells = [(cell, corner) for cell in table.all_cells() for corner in corners_of(cell)]
    cell, corner = cells[0]
    for other, there in cells:
        if (table.width_in(cell, corner) * sign).under(table.width_in(other, there) * sign):
            cell, corner = other, there
    value = table.width_in(cell, corner)
    for other in table.all_cells():
        face = _face_with(table, other, value)
        if face is not None:
            return value, table.middle([(ends[0], ends[-1]) for ends in face]), True
    return value, table.places_at(corner), False


def _face_with(table, cell, value):
    """The first face of a cell that belongs to it and at all of whose corners the text has this width, or None.

    A face tells for each axis the numbers of one end, or of both for all places between them. As no width is beyond
    the value, a setting within a face has it only if all corners of the face do.
    """
    if all([table.width_in(cell, corner) != value for corner in corners_of(cell)]):
        return None
    for face in choices_of([_face_ends(span, marks) for span, marks in zip(cell, table.marks)]):
        if all([table.width_in(cell, corner) == value for corner in choices_of(face)]):
            return face
    return None


def _face_ends(span, marks):
    """The ends of a span that belong to it, each alone, and then both of them for what is between."""
    low, high = span
    if low == high:
        return [(low,)]
    return [(at,) for at in (low, high) if not marks[at]] + [(low, high)]
