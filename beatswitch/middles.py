"""Calls laid over middles: of one front no two over the same middle, nor of one behind."""

from beatswitch.errors import TooMany
from beatswitch.tables import is_among

FRONT = 0
BEHIND = 1


class Board:
    """Calls, and the middles over which they are laid."""

    def __init__(self, middles):
        self._middles = middles
        # Of each call, by its number, its front, its behind and its middle.
        self._calls = {}
        # Of each (side, line, middle) that is not free the number of the call.
        self._held = {}

    def has(self, number):
        """Tell whether there is a call of this number."""
        return number in self._calls

    def calls(self):
        """Tell the calls by numbers, as (number, front, behind, middle)."""
        return [(number,) + self._calls[number] for number in sorted(self._calls)]

    def most_calls(self, front, behind):
        """Tell how many calls a front has, or a behind, where that has more."""
        return self._middles - min(len(self._free(FRONT, front)), len(self._free(BEHIND, behind)))

    def _free(self, side, line):
        return [middle for middle in range(self._middles) if (side, line, middle) not in self._held]

    def put(self, number, front, behind):
        """Lay a call; tell its middle, and the moved calls as (number, from, to).

        A middle is free at the front, and one at the behind; they may be two.
        """
        at_front = self._free(FRONT, front)
        at_behind = self._free(BEHIND, behind)
        both = [middle for middle in at_front if middle in at_behind]
        if both:
            self._hold(number, front, behind, both[0])
            return both[0], []
        moves = self._chain(behind, at_front[0], at_behind[0])
        self._move(moves)
        self._hold(number, front, behind, at_front[0])
        return at_front[0], moves

    def _chain(self, behind, here, there):
        """Tell the calls of the chain from a behind on, over two middles by turns."""
        moves = []
        side = BEHIND
        line = behind
        while (side, line, here) in self._held:
            number = self._held[(side, line, here)]
            moves.append((number, here, there))
            side = 1 - side
            line = self._calls[number][side]
            here, there = there, here
        return moves

    def _move(self, moves):
        moved = [(number, self._calls[number], there) for number, _, there in moves]
        # All go off first, as each goes over to the middle that the next one still has.
        for move in moves:
            self.take(move[0])
        for number, call, there in moved:
            self._hold(number, call[FRONT], call[BEHIND], there)

    def _hold(self, number, front, behind, middle):
        self._calls[number] = (front, behind, middle)
        self._held[(FRONT, front, middle)] = number
        self._held[(BEHIND, behind, middle)] = number

    def take(self, number):
        """Take a call away: its middle is free again."""
        front, behind, middle = self._calls.pop(number)
        del self._held[(FRONT, front, middle)]
        del self._held[(BEHIND, behind, middle)]


def laid(size, middles, calls):
    """Tell a middle for each call; TooMany where a front or a behind has more calls than middles."""
    board = Board(middles)
    for number, (front, behind) in enumerate(calls):
        if board.most_calls(front, behind) >= middles:
            raise TooMany("calls of one front or one behind")
        board.put(number, front, behind)
    return [call[3] for call in board.calls()]


def is_laid(size, middles, calls, thing):
    """Tell of anything whether it is a list of a middle for each call, as they may be laid."""
    if not isinstance(thing, list) or len(thing) != len(calls):
        return False
    if not all([is_among(middles, middle) for middle in thing]):
        return False
    at_fronts = [(call[0], middle) for call, middle in zip(calls, thing)]
    at_behinds = [(call[1], middle) for call, middle in zip(calls, thing)]
    return len(set(at_fronts)) == len(calls) and len(set(at_behinds)) == len(calls)
