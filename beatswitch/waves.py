"""Waves: full pairings taken diagonal by diagonal, each beat from another one on."""


def wave(table, beat):
    """Tell the wave of a table at a beat."""
    n = len(table)
    pairing = [None] * n
    for diagonal in range(n):
        for row in range(n):
            column = (row + beat + diagonal) % n
            if table[row][column] != 0 and pairing[row] is None and column not in pairing:
                pairing[row] = column
    return tuple(pairing)
