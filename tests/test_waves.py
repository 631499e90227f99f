import itertools
import unittest

from beatswitch.pairings import is_full
from beatswitch.waves import wave
from samples import GREATEST, some_tables, square

FAR = 10 ** 59


def beats(n):
    return [*range(n + 1), GREATEST - 1, GREATEST, GREATEST + 1, FAR - 1, FAR]


def by_diagonals(table, beat):
    """The wave, by the cells sorted by how far their diagonal is behind the beat's own."""
    n = len(table)
    wished = [(i, j) for i, j in itertools.product(range(n), repeat=2) if table[i][j]]
    taken = {}
    for i, j in sorted(wished, key=lambda cell: (cell[1] - cell[0] - beat) % n):
        if i not in taken and j not in taken.values():
            taken[i] = j
    return tuple(taken.get(i) for i in range(n))


def diagonal(n, d):
    """The table with wishes on one diagonal alone."""
    return tuple(tuple(1 if j == (i + d) % n else 0 for j in range(n)) for i in range(n))


class Wave(unittest.TestCase):
    def test_worked_out_by_hand(self):
        table = ((1, 1, 0), (1, 0, 0), (0, 1, 0))
        self.assertEqual(wave(table, 0), (0, None, 1))
        self.assertEqual(wave(table, 1), (1, 0, None))
        self.assertEqual(wave(table, 2), (None, 0, 1))
        table = ((1, 1, 0), (0, 0, 0), (1, 0, 0))
        self.assertEqual(wave(table, 0), (0, None, None))
        self.assertEqual(wave(table, 1), (1, None, 0))
        self.assertEqual(wave(table, 2), (0, None, None))

    def test_ten_to_the_fifty_ninth(self):
        # 10 ** 59 leaves 1 over at a division by three.
        self.assertEqual(wave(square(3, 1), FAR), (1, 2, 0))
        self.assertEqual(wave(square(3, 1), FAR - 1), (0, 1, 2))
        self.assertEqual(wave(square(6, 1), FAR), (4, 5, 0, 1, 2, 3))

    def test_thin_and_thick_tables(self):
        for most in (1, 6, GREATEST):
            for table in some_tables(most, 6):
                for beat in beats(len(table)):
                    told = wave(table, beat)
                    self.assertIs(type(told), tuple)
                    self.assertEqual(told, by_diagonals(table, beat))
                    self.assertIs(is_full(table, told), True)

    def test_all_tables_of_three_lines(self):
        for counts in itertools.product((0, 1), repeat=9):
            table = (counts[:3], counts[3:6], counts[6:])
            for beat in range(4):
                self.assertEqual(wave(table, beat), by_diagonals(table, beat))

    def test_one_diagonal_alone(self):
        for n in range(2, 7):
            for d in range(n):
                for beat in beats(n):
                    self.assertEqual(wave(diagonal(n, d), beat), tuple((i + d) % n for i in range(n)))

    def test_all_wishes(self):
        for n in range(2, 7):
            for beat in beats(n):
                expected = tuple((i + beat) % n for i in range(n))
                self.assertEqual(wave(square(n, GREATEST), beat), expected)

    def test_no_wishes(self):
        for n in range(2, 7):
            for beat in beats(n):
                self.assertEqual(wave(square(n), beat), (None,) * n)

    def test_the_beats_own_diagonal_first(self):
        for table in some_tables(1, 6):
            n = len(table)
            for beat in beats(n):
                told = wave(table, beat)
                for i in range(n):
                    j = (i + beat) % n
                    if table[i][j]:
                        self.assertEqual(told[i], j)

    def test_a_round_of_beats_is_alike(self):
        for table in some_tables(2, 3):
            for beat in range(6):
                self.assertEqual(wave(table, beat), wave(table, beat + 60))


if __name__ == "__main__":
    unittest.main()
