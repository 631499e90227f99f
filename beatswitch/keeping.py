"""Keepers: pieces come, stand in their cells and go by waves."""

from beatswitch.pairings import cells_of
from beatswitch.tables import all_cells, check_lines
from beatswitch.waves import wave


class Keeper:
    """Lines in and out with the pieces that stand between them."""

    def __init__(self, n):
        self._n = n
        self._many_came = 0
        self._many_beats = 0
        # Of each cell its pieces in order, each as (number, how many beats were when it came).
        self._standing = {cell: [] for cell in all_cells(n)}

    def come(self, row, column):
        """Take a piece; tell its number. NoLine where row or column is none."""
        check_lines(self._n, row, column)
        number = self._many_came
        self._many_came += 1
        self._standing[(row, column)].append((number, self._many_beats))
        return number

    def beat(self):
        """Let the wave of the table go; tell by rows what goes, as (number, beats waited)."""
        told = []
        for cell in cells_of(wave(self.table(), self._many_beats)):
            number, came = self._standing[cell].pop(0)
            told.append((number, self._many_beats - came))
        self._many_beats += 1
        return told

    def beats(self):
        """Tell how many beats were."""
        return self._many_beats

    def table(self):
        """Tell the table of how many pieces stand in each cell."""
        return tuple([self._counts_of(row) for row in range(self._n)])

    def _counts_of(self, row):
        return tuple([len(self._standing[(row, column)]) for column in range(self._n)])

    def waiting(self, row, column):
        """Tell the numbers of the pieces of a cell, in order. NoLine where row or column is none."""
        check_lines(self._n, row, column)
        return [piece[0] for piece in self._standing[(row, column)]]
