"""Pairings: for each row a column or None, no column twice."""

from beatswitch.tables import is_among, is_size, wished_cells


def is_pairing(n, thing):
    """Tell of anything whether it is a pairing of n lines."""
    if not is_size(n) or not isinstance(thing, tuple) or len(thing) != n:
        return False
    columns = [column for column in thing if column is not None]
    if not all([is_among(n, column) for column in columns]):
        return False
    return len(set(columns)) == len(columns)


def cells_of(pairing):
    """Tell the cells of a pairing, in rising order."""
    return [(i, j) for i, j in enumerate(pairing) if j is not None]


def is_within(table, thing):
    """Tell of anything whether it is a pairing all of whose cells are wished in the table."""
    if not is_pairing(len(table), thing):
        return False
    return all([table[i][j] != 0 for i, j in cells_of(thing)])


def is_full(table, thing):
    """Tell of anything whether it is a pairing within the table to which no cell can be put."""
    if not is_within(table, thing):
        return False
    return all([thing[i] is not None or j in thing for i, j in wished_cells(table)])
