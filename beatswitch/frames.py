"""Frames: a table's pairings gone round and round, with pieces that go by them."""

from beatswitch.errors import TooMany
from beatswitch.pairings import cells_of
from beatswitch.parting import parted
from beatswitch.tables import all_cells, check_lines, greatest_line


class Frame:
    """A round of pairings, with the pieces that stand for it."""

    def __init__(self, table):
        self._table = table
        self._parts = parted(table)
        self._round_beats = greatest_line(table)[0]
        # How many beats of this round were, and how many pieces came in it for each cell.
        self._at = 0
        self._came_in_round = {}
        self._many_came = 0
        self._many_beats = 0
        self._standing = {cell: [] for cell in all_cells(len(table))}

    def pairing(self):
        """Tell the pairing of the next beat."""
        left = self._at
        for pairing, beats in self._parts:
            if left < beats:
                return pairing
            left -= beats
        # A table without pieces has no parts, and nothing ever goes.
        return (None,) * len(self._table)

    def come(self, row, column):
        """Take a piece; tell its number. NoLine where row or column is none, then TooMany."""
        check_lines(len(self._table), row, column)
        many = self._came_in_round.get((row, column), 0)
        if many >= self._table[row][column]:
            raise TooMany("pieces of one cell in one round")
        self._came_in_round[(row, column)] = many + 1
        number = self._many_came
        self._many_came += 1
        self._standing[(row, column)].append(number)
        return number

    def beat(self):
        """Let the first piece of each cell of the pairing go; tell the numbers, by rows."""
        told = []
        for cell in cells_of(self.pairing()):
            if self._standing[cell]:
                told.append(self._standing[cell].pop(0))
        self._many_beats += 1
        self._at += 1
        if self._at >= self._round_beats:
            self._at = 0
            self._came_in_round = {}
        return told

    def beats(self):
        """Tell how many beats were."""
        return self._many_beats

    def waiting(self, row, column):
        """Tell the numbers of the pieces of a cell, in order. NoLine where row or column is none."""
        check_lines(len(self._table), row, column)
        return list(self._standing[(row, column)])
