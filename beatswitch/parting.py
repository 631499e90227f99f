"""Tables parted into pairings, each for some beats, in as few beats as the greatest line lets."""

from beatswitch.covers import greatest
from beatswitch.pairings import cells_of, is_pairing
from beatswitch.tables import greatest_line, is_whole, line_sum, lines_of


def parted(table):
    """Part a table: tell tuples (pairing, beats), with as many beats as the greatest line has pieces."""
    pieces = [list(row) for row in table]
    fillers = _fillers(table)
    left, _ = greatest_line(table)
    told = []
    while left > 0:
        pairing, beats = _next_part(pieces, fillers)
        told.append((pairing, beats))
        left -= beats
    return told


def _fillers(table):
    """Tell how much to put to each cell so that all lines get the sum of the greatest one."""
    n = len(table)
    most, _ = greatest_line(table)
    wanting = {line: most - line_sum(table, line) for line in lines_of(n)}
    fillers = [[0] * n for _ in range(n)]
    for row in range(n):
        for column in range(n):
            filler = min(wanting[(0, row)], wanting[(1, column)])
            fillers[row][column] = filler
            wanting[(0, row)] -= filler
            wanting[(1, column)] -= filler
    return fillers


def _next_part(pieces, fillers):
    """Take one pairing out of the pieces and their fillers for as many beats as it can stay."""
    # All lines have one sum, so each has a cell here; the greatest line has no fillers, so that
    # the pairing has a cell with pieces.
    whole, _ = greatest(_put_together(pieces, fillers))
    pairing = tuple([j if pieces[i][j] > 0 else None for i, j in enumerate(whole)])
    sources = [fillers[i] if pairing[i] is None else pieces[i] for i in range(len(whole))]
    # Each part uses up the pieces or the fillers of a cell, so that there are few parts: at most
    # n n cells have pieces, and at most 2 n - 1 have fillers.
    beats = min([source[j] for source, j in zip(sources, whole)])
    for source, j in zip(sources, whole):
        source[j] -= beats
    return pairing, beats


def _put_together(pieces, fillers):
    return [[a + b for a, b in zip(row, more)] for row, more in zip(pieces, fillers)]


def is_parted(table, thing):
    """Tell of anything whether it is a list of parts of a table, of at most 2 n (n + 1) tuples."""
    n = len(table)
    if not isinstance(thing, list) or len(thing) > 2 * n * (n + 1):
        return False
    if not all([_is_part(n, part) for part in thing]):
        return False
    most, _ = greatest_line(table)
    return sum([beats for _, beats in thing]) == most and _counts(n, thing) == _counts_of(table)


def _is_part(n, thing):
    if not isinstance(thing, tuple) or len(thing) != 2:
        return False
    pairing, beats = thing
    if not is_pairing(n, pairing) or not is_whole(beats):
        return False
    return len(cells_of(pairing)) > 0 and beats >= 1


def _counts(n, parts):
    """Tell for each cell the beats of all parts that have it."""
    counts = [[0] * n for _ in range(n)]
    for pairing, beats in parts:
        for row, column in cells_of(pairing):
            counts[row][column] += beats
    return counts


def _counts_of(table):
    return [list(row) for row in table]
