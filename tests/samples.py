"""Things that the tests of several files hand in."""

import random

GREATEST = 10 ** 18
SIXTY_FIGURES = 10 ** 60 - 1


def nested(depth, kind):
    """A thing of so many tuples (or lists) within one another."""
    thing = kind()
    for _ in range(depth - 1):
        thing = kind([thing])
    return thing


def odd_things():
    """Things that are neither tables nor pairings, of each kind that `anything` has."""
    return [
        None, True, False, 0, 1, 2, -1, GREATEST, SIXTY_FIGURES, -SIXTY_FIGURES,
        "", "1 0 / 0 3", "ab", (), [], ((),), ((), ()), [[1, 0], [0, 3]],
        (None, None, "ab"), ("ab", "cd"), ("", ""), (0, "1"), ("0", "1"), (True, False),
        ([], []), ([0], [1]), (0, ()), (0, (1,)), ((0,), (1,)), (0, [None]),
        (SIXTY_FIGURES, 0), (0, -SIXTY_FIGURES), ((SIXTY_FIGURES, 0), (0, 0)),
        nested(40, tuple), nested(40, list), (nested(39, tuple), nested(39, list)),
        tuple(range(10000)), list(range(10000)), (None,) * 10000,
        ((0,) * 5000, (0,) * 4998), (((0,) * 100,) * 99), ("a" * 6000, "b"),
    ]


def all_pairings(n):
    """Each pairing of n lines, put together row by row."""
    told = [()]
    for _ in range(n):
        told = [p + (j,) for p in told for j in [None, *range(n)] if j is None or j not in p]
    return told


def square(n, count=0):
    """A table of n lines with the same count at each cell."""
    return tuple((count,) * n for _ in range(n))


def chained(n):
    """A table whose last row gets a column only if each other row gives its first choice up."""
    rows = [[0] * n for _ in range(n)]
    for i in range(n - 1):
        rows[i][i] = rows[i][i + 1] = 1
    rows[n - 1][0] = 1
    return tuple(tuple(row) for row in rows)


def turned(table):
    """The table whose rows are the columns of this one."""
    return tuple(zip(*table))


def mixed(table, seed):
    """The table with its rows and its columns in another order."""
    chance = random.Random(seed)
    rows = chance.sample(range(len(table)), len(table))
    columns = chance.sample(range(len(table)), len(table))
    return tuple(tuple(table[i][j] for j in columns) for i in rows)


def some_tables(most, many=10):
    """For 2 to 6 lines thin and thick tables with counts to most, the same ones at each call."""
    chance = random.Random(most)
    told = []
    for n in range(2, 7):
        for share in (0.15, 0.3, 0.5, 0.8, 1):
            for _ in range(many):
                counts = [chance.randint(1, most) if chance.random() < share else 0 for _ in range(n * n)]
                told.append(tuple(tuple(counts[i * n:i * n + n]) for i in range(n)))
    return told


def deep_things():
    """Lists and tuples with odd parts, as deep and as great as anything may be."""
    told = []
    for kind in (tuple, list):
        told += [nested(40, kind), kind(range(9999)), kind([nested(39, tuple), nested(39, list)])]
        told += [kind([SIXTY_FIGURES] * 2), kind([-SIXTY_FIGURES, True]), kind("ab"), kind([None] * 6)]
    return told
