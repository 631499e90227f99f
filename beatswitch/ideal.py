"""Ideal switches: each column sends at each beat the piece that precedes all others."""

from beatswitch.errors import NoPiece
from beatswitch.pieces import Arrivals, Columns
from beatswitch.tables import check_line, is_among


class Ideal:
    """Columns with the pieces that came for them and were not sent."""

    def __init__(self, n):
        self._n = n
        self._many_beats = 0
        self._arrivals = Arrivals(n)
        self._columns = Columns(n)
        # Of each piece, by its number, its column and its rank.
        self._pieces = []
        # Of each piece that was sent the number of that beat.
        self._sent_at = {}

    def come(self, row, column, rank):
        """Take a piece; tell its number. NoLine where row or column is none, then TooMany."""
        number = self._arrivals.come(row, column, rank)
        self._pieces.append((column, rank))
        self._columns.put(number, column, rank)
        return number

    def beat(self):
        """Let each column send; tell by columns the number that it sends, or None."""
        self._arrivals.close()
        told = self._columns.send()
        for number in told:
            if number is not None:
                self._sent_at[number] = self._many_beats
        self._many_beats += 1
        return told

    def beats(self):
        """Tell how many beats were."""
        return self._many_beats

    def waiting(self, column):
        """Tell the numbers that stand for a column, in order. NoLine where it is none."""
        check_line(self._n, 1, column)
        return self._columns.numbers(column)

    def due(self, number):
        """Tell the beat at which a piece was sent, or would be if no more came. NoPiece for no piece."""
        if not is_among(len(self._pieces), number):
            raise NoPiece(number)
        if number in self._sent_at:
            return self._sent_at[number]
        column, rank = self._pieces[number]
        return self._many_beats + self._columns.ahead(number, column, rank)
