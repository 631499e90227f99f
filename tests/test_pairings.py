import copy
import itertools
import unittest

from beatswitch.pairings import cells_of, is_full, is_pairing, is_within
from samples import GREATEST, SIXTY_FIGURES, all_pairings, nested, odd_things

TABLE = ((1, 0, 2), (0, 0, 3), (4, 0, 0))


class IsPairing(unittest.TestCase):
    def test_ordinary(self):
        for n in range(2, 7):
            self.assertIs(is_pairing(n, (None,) * n), True)
            self.assertIs(is_pairing(n, tuple(range(n))), True)
            self.assertIs(is_pairing(n, tuple(reversed(range(n)))), True)
            self.assertIs(is_pairing(n, (n - 1,) + (None,) * (n - 1)), True)

    def test_all_small_tuples(self):
        for n in (2, 3):
            right = all_pairings(n)
            for thing in itertools.product([None, *range(-1, n + 2)], repeat=n):
                self.assertIs(is_pairing(n, thing), thing in right)

    def test_a_column_twice(self):
        for n in range(2, 7):
            for j in range(n):
                self.assertIs(is_pairing(n, (j,) + (None,) * (n - 2) + (j,)), False)
        self.assertIs(is_pairing(4, (2, 0, None, 2)), False)

    def test_no_columns(self):
        for n in range(2, 7):
            wrong = [
                -1, n, n + 1, SIXTY_FIGURES, -SIXTY_FIGURES, True, False, "", "0", (), [], (0,),
                nested(39, tuple), nested(39, list)]
            for column in wrong:
                for at in range(n):
                    pairing = [None] * n
                    pairing[at] = column
                    self.assertIs(is_pairing(n, tuple(pairing)), False)
        self.assertIs(is_pairing(2, (0, True)), False)
        self.assertIs(is_pairing(2, (False, 1)), False)

    def test_a_list(self):
        for n in range(2, 7):
            self.assertIs(is_pairing(n, [None] * n), False)
            self.assertIs(is_pairing(n, list(range(n))), False)

    def test_too_many_or_too_few_places(self):
        for n in range(2, 7):
            for places in (0, n - 1, n + 1, 10000):
                self.assertIs(is_pairing(n, (None,) * places), False)
            self.assertIs(is_pairing(n, tuple(range(n - 1))), False)
            self.assertIs(is_pairing(n, tuple(range(n)) + (None,)), False)

    def test_two_to_six_lines(self):
        for n in (-1, 0, 1, 7, SIXTY_FIGURES):
            self.assertIs(is_pairing(n, (None,) * max(0, min(n, 9))), False)

    def test_anything(self):
        for n in range(2, 7):
            for thing in odd_things():
                for more in (thing, (thing,) * n, [thing] * n, (None,) * (n - 1) + ([thing],)):
                    before = copy.deepcopy(more)
                    self.assertIn(is_pairing(n, more), (True, False))
                    self.assertEqual(more, before)


class IsWithin(unittest.TestCase):
    def test_ordinary(self):
        for pairing in ((None, None, None), (0, 2, None), (2, None, 0), (None, None, 0)):
            self.assertIs(is_within(TABLE, pairing), True)

    def test_a_cell_that_is_not_wished(self):
        for pairing in ((1, None, None), (0, 1, None), (2, 0, None), (0, 2, 1)):
            self.assertIs(is_within(TABLE, pairing), False)

    def test_no_pairing(self):
        for thing in ([0, 2, None], (2, 2, 0), (0, None, 0), (0, 2), (0, 2, None, None), (-1, 2, 0)):
            self.assertIs(is_within(TABLE, thing), False)
        self.assertIs(is_within(((1, 1), (1, 1)), (True, 0)), False)

    def test_greatest_count(self):
        self.assertIs(is_within(((GREATEST, 0), (0, 0)), (0, None)), True)

    def test_all(self):
        for counts in itertools.product((0, 5), repeat=9):
            table = (counts[:3], counts[3:6], counts[6:])
            for pairing in all_pairings(3):
                missed = [1 for i in range(3) if pairing[i] is not None and not table[i][pairing[i]]]
                self.assertIs(is_within(table, pairing), not missed)

    def test_anything(self):
        for thing in odd_things():
            self.assertIs(is_within(TABLE, thing), False)
            self.assertIs(is_within(TABLE, [thing] * 3), False)


class IsFull(unittest.TestCase):
    def test_ordinary(self):
        for pairing in ((0, 2, None), (2, None, 0)):
            self.assertIs(is_full(TABLE, pairing), True)

    def test_a_cell_can_be_put_to_it(self):
        for pairing in ((None, None, None), (0, None, None), (None, 2, None), (2, None, None)):
            self.assertIs(is_full(TABLE, pairing), False)

    def test_not_within(self):
        self.assertIs(is_full(TABLE, (0, 2, 1)), False)
        self.assertIs(is_full(TABLE, [0, 2, None]), False)
        self.assertIs(is_full(((0, 0), (0, 0)), (0, 1)), False)

    def test_the_table_without_wishes(self):
        for n in range(2, 7):
            table = ((0,) * n,) * n
            self.assertIs(is_full(table, (None,) * n), True)
            self.assertIs(is_full(table, (0,) + (None,) * (n - 1)), False)

    def test_full_though_not_greatest(self):
        self.assertIs(is_full(((1, 1), (1, 0)), (0, None)), True)
        self.assertIs(is_full(((1, 1), (1, 0)), (1, 0)), True)

    def test_all(self):
        for counts in itertools.product((0, 1), repeat=9):
            table = (counts[:3], counts[3:6], counts[6:])
            within = [p for p in all_pairings(3) if is_within(table, p)]
            for pairing in within:
                mine = set(cells_of(pairing))
                greater = [p for p in within if mine < set(cells_of(p))]
                self.assertIs(is_full(table, pairing), not greater)

    def test_anything(self):
        for thing in odd_things():
            self.assertIs(is_full(TABLE, thing), False)
            self.assertIs(is_full(TABLE, (thing,) * 3), False)


class Cells(unittest.TestCase):
    def test_rising(self):
        self.assertEqual(cells_of((2, None, 0)), [(0, 2), (2, 0)])
        self.assertEqual(cells_of((1, 0)), [(0, 1), (1, 0)])
        self.assertEqual(cells_of((5, 4, 3, 2, 1, 0)), [(i, 5 - i) for i in range(6)])

    def test_none(self):
        for n in range(2, 7):
            self.assertEqual(cells_of((None,) * n), [])

    def test_a_new_list_at_each_call(self):
        pairing = (1, None, 0)
        first = cells_of(pairing)
        first.append((9, 9))
        self.assertEqual(cells_of(pairing), [(0, 1), (2, 0)])
        self.assertIsNot(cells_of(pairing), cells_of(pairing))


if __name__ == "__main__":
    unittest.main()
