"""Plans: for each piece of a history a beat, in time for the ideal switch, with the least load.

A column of the ideal switch sends at each beat at which it has pieces. So where one beat has one
piece of a column at most, none can have another beat than its own there, and only these beats can
have load 1. Where two pieces of a row have one beat so, a copy tells beats with load 2.
"""

from beatswitch.copying import Copy
from beatswitch.ideal import Ideal
from beatswitch.pieces import coming_at
from beatswitch.tables import is_whole


def plan(n, history):
    """Tell the least load that a plan of a history has, and a plan that has it."""
    load = _least_load(n, history)
    if load < 2:
        return load, _due_beats(n, history)
    return load, _passing_beats(n, history)


def _least_load(n, history):
    if not _pieces_of(history):
        return 0
    return 1 if needs_two(n, history) is None else 2


def _pieces_of(history):
    return [piece for pieces in history for piece in pieces]


def _first_beats(history):
    """Tell of each piece the beat at which it can be sent first."""
    return [beat for beat, pieces in enumerate(history) for _ in pieces]


def _due_beats(n, history):
    """Tell of each piece the beat at which the ideal switch sends it."""
    ideal = Ideal(n)
    for pieces in history:
        for row, column, rank in pieces:
            ideal.come(row, column, rank)
        ideal.beat()
    return [ideal.due(number) for number in range(len(_pieces_of(history)))]


def _passing_beats(n, history):
    """Tell of each piece the beat at which it passes in a copy: at each beat two of a line at most do."""
    copy = Copy(n)
    told = [None] * len(_pieces_of(history))
    while None in told:
        beat = copy.beats()
        for row, column, rank in coming_at(history, beat):
            copy.come(row, column, rank)
        copy.beat()
        first, second = copy.passed()
        for number in first + second:
            told[number] = beat
    return told


def is_plan(n, history, told):
    """Tell of anything whether it is the least load of a history with a plan that has it."""
    if not isinstance(told, tuple) or len(told) != 2:
        return False
    load, beats = told
    if not is_whole(load) or load != _least_load(n, history):
        return False
    return _is_in_time(n, history, beats) and _load_of(history, beats) == load


def _is_in_time(n, history, thing):
    """Tell of anything whether it is a list of a beat for each piece that is in time for it."""
    firsts = _first_beats(history)
    if not isinstance(thing, list) or len(thing) != len(firsts):
        return False
    if not all([is_whole(beat) for beat in thing]):
        return False
    lasts = _due_beats(n, history)
    return all([first <= beat <= last for first, beat, last in zip(firsts, thing, lasts)])


def _load_of(history, beats):
    """Tell the greatest number of pieces of one row, or for one column, that have one beat."""
    pieces = _pieces_of(history)
    used = [(0, piece[0], beat) for piece, beat in zip(pieces, beats)]
    used = used + [(1, piece[1], beat) for piece, beat in zip(pieces, beats)]
    return max([used.count(place) for place in used], default=0)


def needs_two(n, history):
    """Tell the least (beat, number, number) of two pieces of one row sent at one beat, or None."""
    rows = [piece[0] for piece in _pieces_of(history)]
    beats = _due_beats(n, history)
    pairs = [(i, j) for j in range(len(rows)) for i in range(j)]
    told = [(beats[i], i, j) for i, j in pairs if rows[i] == rows[j] and beats[i] == beats[j]]
    return min(told, default=None)
