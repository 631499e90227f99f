"""Tables behind pairings, cleared by waves, and how long a cell can have pieces."""

from beatswitch.errors import NotFull
from beatswitch.pairings import cells_of, is_full
from beatswitch.tables import count_at, line_sum, wished_cells
from beatswitch.waves import wave


def behind(table, pairings):
    """Tell the table behind a run's pairings; NotFull at the first one that is none there."""
    rest = table
    for at, pairing in enumerate(pairings):
        if not is_full(rest, pairing) or not cells_of(pairing):
            raise NotFull(at)
        rest = _behind_one(rest, pairing)
    return rest


def _behind_one(table, pairing):
    return tuple([_row_behind(row, taken) for row, taken in zip(table, pairing)])


def _row_behind(row, taken):
    """Tell a row of counts with one less at the column taken, None if none is."""
    return tuple([count - 1 if column == taken else count for column, count in enumerate(row)])


def cleared(table, beat):
    """Tell the run of the waves of this beat, the next one and so on, till the table is empty."""
    rest = table
    told = []
    while wished_cells(rest):
        pairing = wave(rest, beat + len(told))
        told.append(pairing)
        rest = _behind_one(rest, pairing)
    return told


def latest(table, row, column):
    """Tell behind how many beats of any run a cell has no pieces left."""
    count = count_at(table, row, column)
    if count == 0:
        return 0
    return line_sum(table, (0, row)) + line_sum(table, (1, column)) - count
