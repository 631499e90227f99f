"""Halls: calls come and end, laid over middles, moved by one chain where it must be."""

from beatswitch.errors import NoCall, TooMany
from beatswitch.middles import Board
from beatswitch.tables import check_lines


class Hall:
    """Fronts and behinds with the calls that there are between them."""

    def __init__(self, size, lines, middles):
        self._size = size
        # A front has no more calls than middles, even where there are fewer of these than lines.
        self._most = min(lines, middles)
        self._board = Board(middles)
        self._many_came = 0

    def call(self, front, behind):
        """Lay a call; tell (number, middle, moves). NoLine where a side is none, then TooMany."""
        check_lines(self._size, front, behind)
        if self._board.most_calls(front, behind) >= self._most:
            raise TooMany("calls of one front or one behind")
        number = self._many_came
        self._many_came += 1
        middle, moves = self._board.put(number, front, behind)
        return number, middle, moves

    def end(self, number):
        """End a call: its middle is free again. NoCall where there is none."""
        if not self._board.has(number):
            raise NoCall(number)
        self._board.take(number)

    def calls(self):
        """Tell the calls that there are by numbers, as (number, front, behind, middle)."""
        return self._board.calls()
