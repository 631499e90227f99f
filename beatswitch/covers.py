"""Greatest pairings, told with lines that show that no pairing has more cells."""

from beatswitch.pairings import cells_of, is_within
from beatswitch.tables import is_among, wished_cells


def greatest(table):
    """Tell a greatest pairing of a table, and as many lines that meet all wishes."""
    pairing = _greatest_pairing(table)
    return pairing, _meeting_lines(table, pairing)


def _greatest_pairing(table):
    holders = [None] * len(table)
    for row in range(len(table)):
        _give_column(table, row, holders, {})
    return tuple([_place_of(row, holders) for row in range(len(table))])


def _give_column(table, row, holders, asked):
    """Give a row a column, whose holder gets another one if it has one; tell whether one was found."""
    for column, count in enumerate(table[row]):
        if count == 0 or column in asked:
            continue
        asked[column] = True
        if holders[column] is None or _give_column(table, holders[column], holders, asked):
            holders[column] = row
            return True
    return False


def _place_of(thing, things):
    """Tell the place of a thing among things, None if it is not there."""
    if thing not in things:
        return None
    return things.index(thing)


def _meeting_lines(table, pairing):
    """Tell the lines of a greatest pairing: one for each of its cells, each wish on one."""
    reached = _reached_columns(table, pairing)
    lines = []
    for row, column in cells_of(pairing):
        # No chain to this cell means that its row can stand for it; a chain, that its column must.
        if column in reached:
            lines.append((1, column))
        else:
            lines.append((0, row))
    return sorted(lines)


def _reached_columns(table, pairing):
    """Tell the columns that chains reach from the rows left out: a wish there, a cell of the pairing back."""
    rows = [row for row, column in enumerate(pairing) if column is None]
    reached = {}
    while rows:
        row = rows.pop()
        for column, count in enumerate(table[row]):
            if count != 0 and column not in reached:
                reached[column] = True
                # A column reached has a row, or the pairing would not be a greatest one.
                rows.append(pairing.index(column))
    return reached


def is_greatest(table, told):
    """Tell of anything whether it is a greatest pairing of a table with lines that show it."""
    if not isinstance(told, tuple) or len(told) != 2:
        return False
    pairing, lines = told
    if not is_within(table, pairing) or not _are_rising_lines(len(table), lines):
        return False
    if len(lines) != len(cells_of(pairing)):
        return False
    return all([(0, i) in lines or (1, j) in lines for i, j in wished_cells(table)])


def _are_rising_lines(n, thing):
    if not isinstance(thing, list) or not all([_is_line(n, line) for line in thing]):
        return False
    return all([line < later for line, later in zip(thing, thing[1:])])


def _is_line(n, thing):
    if not isinstance(thing, tuple) or len(thing) != 2:
        return False
    return is_among(2, thing[0]) and is_among(n, thing[1])
