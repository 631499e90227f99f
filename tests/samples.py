"""Things that the tests of several files hand in."""

GREATEST = 10 ** 18
SIXTY_FIGURES = 10 ** 60 - 1


def nested(depth, kind):
    """A thing of so many tuples (or lists) within one another."""
    thing = kind()
    for _ in range(depth - 1):
        thing = kind([thing])
    return thing


def odd_things():
    """Things that are neither tables nor pairings, of each kind that `anything` has."""
    return [
        None, True, False, 0, 1, 2, -1, GREATEST, SIXTY_FIGURES, -SIXTY_FIGURES,
        "", "1 0 / 0 3", "ab", (), [], ((),), ((), ()), [[1, 0], [0, 3]],
        (None, None, "ab"), ("ab", "cd"), ("", ""), (0, "1"), ("0", "1"), (True, False),
        ([], []), ([0], [1]), (0, ()), (0, (1,)), ((0,), (1,)), (0, [None]),
        (SIXTY_FIGURES, 0), (0, -SIXTY_FIGURES), ((SIXTY_FIGURES, 0), (0, 0)),
        nested(40, tuple), nested(40, list), (nested(39, tuple), nested(39, list)),
        tuple(range(10000)), list(range(10000)), (None,) * 10000,
        ((0,) * 5000, (0,) * 4998), (((0,) * 100,) * 99), ("a" * 6000, "b"),
    ]
