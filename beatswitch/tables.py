"""Tables of pieces: what they are, their lines and the sums of these."""

from beatswitch.errors import NoLine

LEAST_LINES = 2
MOST_LINES = 6
# 10 ** 18
GREATEST_COUNT = 1000000000000000000


def is_whole(thing):
    """Tell whether a thing is a whole number: an int that is no truth."""
    return isinstance(thing, int) and not isinstance(thing, bool)


def is_among(n, thing):
    """Tell of anything whether it is one of n things numbered from 0."""
    return is_whole(thing) and 0 <= thing < n


def is_size(n):
    """Tell whether a table may have so many lines."""
    return LEAST_LINES <= n <= MOST_LINES


def check_line(n, at, number):
    """Refuse with NoLine a number of a side, 0 or 1, that is no line of n."""
    if not is_among(n, number):
        raise NoLine(at)


def check_lines(n, one, other):
    """Refuse with NoLine the first of two numbers, one of either side, that is no line of n."""
    check_line(n, 0, one)
    check_line(n, 1, other)


def is_table(thing):
    """Tell of anything whether it is a table."""
    if not isinstance(thing, tuple) or not is_size(len(thing)):
        return False
    return all([_is_row(len(thing), row) for row in thing])


def _is_row(n, thing):
    if not isinstance(thing, tuple) or len(thing) != n:
        return False
    return all([_is_count(count) for count in thing])


def _is_count(thing):
    return is_whole(thing) and 0 <= thing <= GREATEST_COUNT


def all_cells(n):
    """Tell the cells of a table of n lines, in rising order."""
    return [(row, column) for row in range(n) for column in range(n)]


def wished_cells(table):
    """Tell the cells with pieces, in rising order."""
    return [(i, j) for i, row in enumerate(table) for j, count in enumerate(row) if count != 0]


def count_at(table, row, column):
    """Tell the count of a cell; a cell that the table does not have has no pieces."""
    if not is_among(len(table), row) or not is_among(len(table), column):
        return 0
    return table[row][column]


def lines_of(n):
    """Tell the lines of n lines in and out, in rising order: rows ahead of columns."""
    return [(side, number) for side in (0, 1) for number in range(n)]


def line_sum(table, line):
    """Tell how many pieces a line has; a line that the table does not have has none."""
    side, number = line
    if not 0 <= number < len(table):
        return 0
    if side == 0:
        return sum(table[number])
    return sum([row[number] for row in table])


def greatest_line(table):
    """Tell the greatest sum of all lines, and the least line that has it."""
    greatest = line_sum(table, (0, 0))
    least = (0, 0)
    for line in lines_of(len(table)):
        total = line_sum(table, line)
        # A later line with the same sum is not the least one.
        if total > greatest:
            greatest = total
            least = line
    return greatest, least
