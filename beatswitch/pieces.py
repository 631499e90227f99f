"""Pieces that come, and pieces at their columns: what ideal switches and copies have alike."""

from beatswitch.errors import TooMany
from beatswitch.tables import check_lines

MANY_RANKS = 10


class Arrivals:
    """Pieces that come between the beats: numbered, of each row one at most ahead of a beat."""

    def __init__(self, n):
        self._n = n
        self._many_came = 0
        # The pieces that came since the last beat, as (row, column, rank).
        self._latest = []

    def come(self, row, column, rank):
        """Take a piece; tell its number. NoLine where row or column is none, then TooMany."""
        check_lines(self._n, row, column)
        if row in [piece[0] for piece in self._latest]:
            raise TooMany("pieces of one row ahead of one beat")
        number = self._many_came
        self._many_came += 1
        self._latest.append((row, column, rank))
        return number

    def close(self):
        """End the time ahead of a beat; tell the pieces that came in it, in their order."""
        told = self._latest
        self._latest = []
        return told


class Columns:
    """Pieces at their columns, each one preceding the next."""

    def __init__(self, n):
        # Of each column tuples (rank, number): the lesser one precedes.
        self._standing = [[] for _ in range(n)]

    def put(self, number, column, rank):
        """Put a piece to its column."""
        self._standing[column].insert(self.ahead(number, column, rank), (rank, number))

    def ahead(self, number, column, rank):
        """Tell how many pieces at a column precede a piece for it."""
        return len([place for place in self._standing[column] if place < (rank, number)])

    def numbers(self, column):
        """Tell the numbers of the pieces at a column, each one preceding the next."""
        return [place[1] for place in self._standing[column]]

    def send(self):
        """Send of each column the piece that precedes all others; tell its number or None."""
        told = []
        for line in self._standing:
            told.append(line.pop(0)[1] if line else None)
        return told


def coming_at(history, beat):
    """Tell the pieces that come ahead of a beat; none behind the end of a history."""
    return history[beat] if beat < len(history) else []
