"""Copies: by two steady sets at each beat they send what an ideal switch sends."""

from beatswitch.errors import NoBeat, NoPiece, NotSteady
from beatswitch.pieces import Arrivals, Columns
from beatswitch.steady import best_rows, is_steady
from beatswitch.tables import check_line, is_among


class Copy:
    """Rows in which pieces stand till they pass, and columns at which they are till they are sent."""

    def __init__(self, n):
        self._n = n
        self._arrivals = Arrivals(n)
        self._columns = Columns(n)
        # Of each row its pieces from the front to the back, as steady sets take them.
        self._rows = [[] for _ in range(n)]
        # Of each beat what came ahead of it and the two sets that passed, in tuples.
        self._log = []

    def come(self, row, column, rank):
        """Take a piece; tell its number. NoLine where row or column is none, then TooMany."""
        number = self._arrivals.come(row, column, rank)
        # A list puts what is told a place beyond its end at its end.
        self._rows[row].insert(self._columns.ahead(number, column, rank), (number, column, rank))
        return number

    def beat(self):
        """Let two steady sets pass, and columns send between them; tell what is sent, by columns."""
        first = best_rows(self._rows)
        return self._go(first, best_rows(_rows_without(self._rows, first)))

    def beat_with(self, first, second):
        """Do as at a beat, with these two sets; NotSteady where one is no steady set at its step."""
        if not is_steady(self._rows, first):
            raise NotSteady(0)
        if not is_steady(_rows_without(self._rows, first), second):
            raise NotSteady(1)
        return self._go(first, second)

    def _go(self, first, second):
        self._pass(first)
        told = self._columns.send()
        self._pass(second)
        self._log.append((tuple(self._arrivals.close()), tuple(first), tuple(second)))
        return told

    def _pass(self, numbers):
        for row in self._rows:
            for number, column, rank in row:
                if number in numbers:
                    self._columns.put(number, column, rank)
        self._rows = _rows_without(self._rows, numbers)

    def beats(self):
        """Tell how many beats were."""
        return len(self._log)

    def passed(self):
        """Tell the two sets of the last beat, two empty ones ahead of the first beat."""
        if not self._log:
            return [], []
        _, first, second = self._log[-1]
        return list(first), list(second)

    def standing(self, row):
        """Tell the numbers that stand in a row, from the front to the back. NoLine where it is none."""
        check_line(self._n, 0, row)
        return [piece[0] for piece in self._rows[row]]

    def waiting(self, column):
        """Tell the numbers at a column, each one preceding the next. NoLine where it is none."""
        check_line(self._n, 1, column)
        return self._columns.numbers(column)

    def slack(self, number):
        """Tell how many precede a piece at its column, less those in front of it. NoPiece where none stands."""
        for row in self._rows:
            for place, (standing, column, rank) in enumerate(row):
                if standing == number:
                    return self._columns.ahead(number, column, rank) - place
        raise NoPiece(number)

    def log(self):
        """Tell of each beat what came ahead of it and the two sets that passed."""
        return [(list(comes), list(first), list(second)) for comes, first, second in self._log]

    def back(self, beats):
        """Go back to right after so many beats. NoBeat where there were not so many."""
        if not is_among(len(self._log) + 1, beats):
            raise NoBeat(beats)
        log = self._log[:beats]
        self._arrivals = Arrivals(self._n)
        self._columns = Columns(self._n)
        self._rows = [[] for _ in range(self._n)]
        self._log = []
        for comes, first, second in log:
            for row, column, rank in comes:
                self.come(row, column, rank)
            self._go(first, second)


def _rows_without(rows, numbers):
    return [[piece for piece in row if piece[0] not in numbers] for row in rows]
