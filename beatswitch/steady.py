"""Steady sets: of rows of pieces some, such that each other piece is outdone in its row or column.

Rows are lists of tuples (number, column, rank), from the front to the back.
"""

from beatswitch.tables import is_whole


def is_steady(rows, thing):
    """Tell of anything whether it is a steady set of rows."""
    return _is_set(rows, thing) and not_outdone(rows, thing) is None


def _is_set(rows, thing):
    """Tell of anything whether it is a rising list of numbers, no two of one row or column."""
    if not isinstance(thing, list) or not all([is_whole(number) for number in thing]):
        return False
    if not all([number < later for number, later in zip(thing, thing[1:])]):
        return False
    lines = {piece[0]: (at, piece[1]) for at, row in enumerate(rows) for piece in row}
    if not all([number in lines for number in thing]):
        return False
    at_rows = [lines[number][0] for number in thing]
    at_columns = [lines[number][1] for number in thing]
    return len(set(at_rows)) == len(thing) and len(set(at_columns)) == len(thing)


def not_outdone(rows, chosen):
    """Tell the least number of a piece that no chosen one outdoes, None where there is none."""
    places = {column: (rank, number) for row in rows for number, column, rank in row if number in chosen}
    told = []
    for row in rows:
        for number, column, rank in row:
            # What stands behind a chosen piece is outdone.
            if number in chosen:
                break
            if column not in places or (rank, number) < places[column]:
                told.append(number)
    return min(told, default=None)


def best_rows(rows):
    """Tell the steady set that is best for the rows."""
    return _settled([[(column, (rank, number), number) for number, column, rank in row] for row in rows])


def best_columns(rows):
    """Tell the steady set that is best for the columns."""
    wishes = [[] for _ in rows]
    for at, row in enumerate(rows):
        for place, (number, column, rank) in enumerate(row):
            wishes[column].append((rank, number, at, place))
    return _settled([_offers_of(pieces) for pieces in wishes])


def _offers_of(pieces):
    """Tell what a column offers, in the order in which its pieces precede one another."""
    return [(at, place, number) for _, number, at, place in sorted(pieces)]


def _settled(offers):
    """Let lines offer their pieces, in their order, till each has one taken or no more to offer.

    An offer is (line of the other side, worth there, number). The other side keeps the least
    worth offered to it, so that what it lets go is outdone for good.
    """
    offered = [0] * len(offers)
    kept = {}
    asking = list(range(len(offers)))
    while asking:
        line = asking.pop()
        if offered[line] == len(offers[line]):
            continue
        other, worth, number = offers[line][offered[line]]
        offered[line] += 1
        if other not in kept:
            kept[other] = (worth, number, line)
        elif worth < kept[other][0]:
            asking.append(kept[other][2])
            kept[other] = (worth, number, line)
        else:
            asking.append(line)
    return sorted([offer[1] for offer in kept.values()])


def upper(rows, one, other):
    """Tell of two steady sets the one with each row's piece that is in front of its other one."""
    return sorted([numbers[0] for numbers in _numbers_by_rows(rows, one, other)])


def lower(rows, one, other):
    """Tell of two steady sets the one with each row's piece that is behind its other one."""
    return sorted([numbers[-1] for numbers in _numbers_by_rows(rows, one, other)])


def _numbers_by_rows(rows, one, other):
    """Tell of each row that has some its numbers in two sets, from the front to the back."""
    told = [[piece[0] for piece in row if piece[0] in one or piece[0] in other] for row in rows]
    return [numbers for numbers in told if numbers]
