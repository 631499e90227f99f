"""Histories measured: how many pieces an ideal switch has sent, and a keeper has let go."""

from beatswitch.ideal import Ideal
from beatswitch.keeping import Keeper
from beatswitch.pieces import coming_at


def measured(n, history, beats):
    """Tell for each of so many beats how many pieces of each column were sent and gone till then."""
    ideal = Ideal(n)
    keeper = Keeper(n)
    columns = []
    sent = [0] * n
    gone = [0] * n
    told = []
    for beat in range(beats):
        for row, column, rank in coming_at(history, beat):
            ideal.come(row, column, rank)
            keeper.come(row, column)
            columns.append(column)
        _count(sent, columns, [number for number in ideal.beat() if number is not None])
        _count(gone, columns, [piece[0] for piece in keeper.beat()])
        told.append((list(sent), list(gone)))
    return told


def _count(counts, columns, numbers):
    """Count numbers by their columns."""
    for number in numbers:
        counts[columns[number]] += 1
