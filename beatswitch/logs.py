"""Logs: what came ahead of each beat of a copy, and the two sets that passed at it."""

from beatswitch.copying import Copy
from beatswitch.errors import SwitchError
from beatswitch.pieces import MANY_RANKS
from beatswitch.tables import is_among

MOST_BEATS = 100


def is_log(n, thing):
    """Tell of anything whether it is a right log of n lines."""
    if not isinstance(thing, list) or len(thing) > MOST_BEATS:
        return False
    if not all([_has_parts_of_a_beat(beat) for beat in thing]):
        return False
    try:
        sent(n, thing)
    except SwitchError:
        return False
    return True


def _has_parts_of_a_beat(thing):
    """Tell whether a thing is a beat, but for the lines and the sets, which a copy looks at."""
    if not isinstance(thing, tuple) or len(thing) != 3:
        return False
    return isinstance(thing[0], list) and all([_has_parts_of_a_piece(piece) for piece in thing[0]])


def _has_parts_of_a_piece(thing):
    return isinstance(thing, tuple) and len(thing) == 3 and is_among(MANY_RANKS, thing[2])


def sent(n, log):
    """Tell what is sent at each beat of a log; what a copy refuses is refused as by it."""
    copy = Copy(n)
    told = []
    for comes, first, second in log:
        for row, column, rank in comes:
            copy.come(row, column, rank)
        told.append(copy.beat_with(first, second))
    return told
