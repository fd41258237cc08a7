"""Tables in other bases, turned and mirrored."""

from fromsize.checks import is_list, is_numbers, is_table, is_within
from fromsize.errors import BadNumber, BadTable


def in_base(table, row, other):
    """The table in the base (row, other)."""
    size = need_table(table)
    if not is_within(row, 0, size - 1):
        raise BadNumber("row")
    if not is_within(other, 0, size - 1) or other == row:
        raise BadNumber("other")
    rows = [list(entries) for entries in table]
    rows[row] = [entry + more for entry, more in zip(rows[row], rows[other])]
    return tuple([tuple([entry - entries[row] if place == other else entry for place, entry in enumerate(entries)])
                  for entries in rows])


def in_turn(table, axes):
    """The table turned by two axes, or mirrored by one."""
    size = need_table(table)
    if not are_axes(axes, size):
        raise BadNumber("axes")
    return transposed(rows_turned(transposed(rows_turned(table, axes)), axes))


def need_table(value):
    """The size of a table; what is none is refused."""
    if not is_list(value) or not is_table(value, len(value)):
        raise BadTable("table")
    return len(value)


def are_axes(value, size):
    """Whether a value is a list of one axis of tables of this size, or of two ascending ones."""
    if not is_numbers(value) or len(value) not in (1, 2):
        return False
    return value[0] >= 0 and value[-1] < size and (len(value) == 1 or value[0] < value[1])


def rows_turned(table, axes):
    """The turn, or the mirror, times the table."""
    parts = [turn_parts(place, axes) for place in range(len(table))]
    columns = range(len(table))
    return [[sum([number * table[row][column] for number, row in told]) for column in columns] for told in parts]


def turn_parts(place, axes):
    """What a turn, or a mirror, has in this row other than 0: pairs of a number and a column."""
    if place not in axes:
        return [(1 if len(axes) == 1 else 5, place)]
    if len(axes) == 1:
        return [(-1, place)]
    one, other = axes
    return [(3, one), (4, other)] if place == one else [(-4, one), (3, other)]


def transposed(table):
    """The table turned over."""
    return tuple([tuple(column) for column in zip(*table)])
