"""Heaviest pairings, told with prices that show that no pairing weighs more."""

from beatswitch.covers import greatest
from beatswitch.pairings import cells_of, is_within
from beatswitch.tables import all_cells, is_whole


def heaviest(table):
    """Tell a heaviest pairing of a table, with row prices and column prices."""
    row_prices = [max(row) for row in table]
    column_prices = [0] * len(table)
    pairing, lines = greatest(_met_exactly(table, row_prices, column_prices))
    # Behind as many changes of prices as there are cells at most, each line has a cell whose count
    # its prices meet exactly. No price is below 0: a column keeps its 0 till it has such a cell.
    while None in pairing:
        _change_prices(table, row_prices, column_prices, lines)
        pairing, lines = greatest(_met_exactly(table, row_prices, column_prices))
    wished = tuple([j if table[i][j] != 0 else None for i, j in enumerate(pairing)])
    return wished, row_prices, column_prices


def _met_exactly(table, row_prices, column_prices):
    """Tell the table of the cells whose count is just what their prices are together."""
    return [
        [1 if price + other == count else 0 for other, count in zip(column_prices, row)]
        for price, row in zip(row_prices, table)
    ]


def _change_prices(table, row_prices, column_prices, lines):
    """Take from the rows and put to the columns what leaves each cell paid, and one more exactly.

    The lines meet all cells that are paid exactly. The rows off them are those that chains reach
    from rows left out, and the columns on them are those that chains reach.
    """
    rows = [row for row in range(len(table)) if (0, row) not in lines]
    columns = [column for column in range(len(table)) if (1, column) in lines]
    spare = min([
        row_prices[i] + column_prices[j] - table[i][j]
        for i, j in all_cells(len(table)) if i in rows and j not in columns
    ])
    for row in rows:
        row_prices[row] -= spare
    for column in columns:
        column_prices[column] += spare


def is_heaviest(table, told):
    """Tell of anything whether it is a heaviest pairing of a table with prices that show it."""
    if not isinstance(told, tuple) or len(told) != 3:
        return False
    pairing, row_prices, column_prices = told
    if not is_within(table, pairing):
        return False
    if not _are_prices(len(table), row_prices) or not _are_prices(len(table), column_prices):
        return False
    cells = all_cells(len(table))
    if not all([table[i][j] <= row_prices[i] + column_prices[j] for i, j in cells]):
        return False
    weight = sum([table[i][j] for i, j in cells_of(pairing)])
    return sum(row_prices) + sum(column_prices) == weight


def _are_prices(n, thing):
    if not isinstance(thing, list) or len(thing) != n:
        return False
    return all([is_whole(price) and price >= 0 for price in thing])
