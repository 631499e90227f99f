"""Desks: told rows of words, they answer from a keeper and a hall."""

from beatswitch.clearing import latest
from beatswitch.covers import greatest
from beatswitch.errors import NoRow, TooMany
from beatswitch.halls import Hall
from beatswitch.keeping import Keeper
from beatswitch.pairings import cells_of
from beatswitch.tables import all_cells, check_lines, greatest_line, is_size
from beatswitch.texts import read, shown, writes_number
from beatswitch.waves import wave

MOST_FIGURES = 9
MOST_PIECES = 60


def _listed(words):
    """Tell the words parted by single blanks, `none` where there are none."""
    return " ".join(words) if words else "none"


def _come(keeper, row, column):
    return str(keeper.come(row, column))


def _beat(keeper):
    return _listed([f"{number}:{waited}" for number, waited in keeper.beat()])


def _waiting(keeper, row, column):
    return _listed([str(number) for number in keeper.waiting(row, column)])


def _show(keeper):
    return shown(keeper.table())


def _wave(keeper, beat):
    columns = wave(keeper.table(), beat)
    return " ".join(["-" if column is None else str(column) for column in columns])


def _greatest(keeper):
    pairing, _ = greatest(keeper.table())
    return str(len(cells_of(pairing)))


def _parted(keeper):
    # A parting has as many beats as the greatest line has pieces.
    return str(greatest_line(keeper.table())[0])


def _latest(keeper, row, column):
    table = keeper.table()
    check_lines(len(table), row, column)
    return str(latest(table, row, column))


def _call(hall, front, behind):
    number, middle, moves = hall.call(front, behind)
    moved = [str(move[0]) for move in moves]
    return " ".join([str(number), str(middle)] + moved)


def _end(hall, number):
    hall.end(number)
    return "ok"


def _calls(hall):
    told = hall.calls()
    return _listed([f"{number}:{front}:{behind}:{middle}" for number, front, behind, middle in told])


# What a row asks of the keeper, and what of the hall, by its first word.
KEEPER_ROWS = {
    "come": _come, "beat": _beat, "waiting": _waiting, "show": _show, "wave": _wave,
    "greatest": _greatest, "parted": _parted, "latest": _latest,
}
HALL_ROWS = {"call": _call, "end": _end, "calls": _calls}

# How many numbers stand behind the first word; behind `table` stands a text.
MANY_NUMBERS = {
    "lines": 1, "come": 2, "beat": 0, "waiting": 2, "show": 0, "wave": 1, "greatest": 0,
    "parted": 0, "latest": 2, "hall": 3, "call": 2, "end": 1, "calls": 0,
}


def _read_number(word):
    """Read a number; None where the word writes none of at most nine figures."""
    if not writes_number(word) or len(word) > MOST_FIGURES:
        return None
    return int(word)


def _is_hall(size, lines, middles):
    return 2 <= size <= 5 and 1 <= lines <= 4 and lines <= middles <= 8


def _filled_keeper(table):
    """Make a keeper for which the pieces of a table came, cell by cell, the rows ahead."""
    keeper = Keeper(len(table))
    for row, column in all_cells(len(table)):
        for _ in range(table[row][column]):
            keeper.come(row, column)
    return keeper


class Desk:
    """A keeper and a hall that are asked by rows of words."""

    def __init__(self):
        self._keeper = Keeper(2)
        self._hall = Hall(2, 1, 1)

    def say(self, row):
        """Answer a row; NoRow where it is none by its words, NoText where its text writes no table."""
        word, *rest = row.split(" ")
        if word == "table" and rest:
            return self._take_table(" ".join(rest))
        numbers = [_read_number(part) for part in rest]
        if MANY_NUMBERS.get(word) != len(numbers) or None in numbers:
            raise NoRow(row)
        if word in KEEPER_ROWS:
            answer = KEEPER_ROWS[word]
            return answer(self._keeper, *numbers)
        if word in HALL_ROWS:
            answer = HALL_ROWS[word]
            return answer(self._hall, *numbers)
        if word == "lines":
            return self._take_lines(row, *numbers)
        return self._take_hall(row, *numbers)

    def _take_lines(self, row, n):
        if not is_size(n):
            raise NoRow(row)
        self._keeper = Keeper(n)
        return "ok"

    def _take_table(self, text):
        table = read(text)
        if sum([sum(counts) for counts in table]) > MOST_PIECES:
            raise TooMany("pieces of a table for a desk")
        self._keeper = _filled_keeper(table)
        return "ok"

    def _take_hall(self, row, size, lines, middles):
        if not _is_hall(size, lines, middles):
            raise NoRow(row)
        self._hall = Hall(size, lines, middles)
        return "ok"
