import copy as copies
import itertools
import unittest

from beatswitch.heaviest import heaviest, is_heaviest
from samples import (
    GREATEST, SIXTY_FIGURES, all_pairings, chained, deep_things, mixed, odd_things, some_tables,
    square, turned)

TABLE = ((5, 3), (4, 0))


def cells(pairing):
    return [(i, j) for i, j in enumerate(pairing) if j is not None]


def weight(table, pairing):
    return sum(table[i][j] for i, j in cells(pairing))


def within(table, pairing):
    return all(table[i][j] for i, j in cells(pairing))


def most_weight(table):
    n = len(table)
    return max(sum(table[i][order[i]] for i in range(n)) for order in itertools.permutations(range(n)))


def tables():
    told = [table for most in (1, 2, 7, GREATEST) for table in some_tables(most, 4)]
    for n in range(2, 7):
        told += [square(n), square(n, 1), square(n, 3), square(n, GREATEST)]
        for seed in range(5):
            told += [mixed(chained(n), seed), mixed(turned(chained(n)), seed)]
        # Counts that grow by rows and columns, so that prices go down again and again.
        told.append(tuple(tuple((i + 1) * (j + 1) for j in range(n)) for i in range(n)))
        told.append(tuple(tuple(GREATEST - (i - j) ** 2 for j in range(n)) for i in range(n)))
        told.append(tuple(tuple(10 ** (3 * max(i, j)) for j in range(n)) for i in range(n)))
    return told


class Heaviest(unittest.TestCase):
    def assert_right(self, table):
        told = heaviest(table)
        self.assertEqual([type(part) for part in (told, *told)], [tuple, tuple, list, list])
        pairing, row_prices, column_prices = told
        n = len(table)
        self.assertEqual((len(pairing), len(row_prices), len(column_prices)), (n, n, n))
        self.assertTrue(within(table, pairing), (table, told))
        columns = [j for _, j in cells(pairing)]
        self.assertEqual(len(set(columns)), len(columns))
        for price in row_prices + column_prices:
            self.assertIs(type(price), int)
            self.assertGreaterEqual(price, 0)
        for i, j in itertools.product(range(n), range(n)):
            self.assertLessEqual(table[i][j], row_prices[i] + column_prices[j], (table, told))
        self.assertEqual(sum(row_prices) + sum(column_prices), weight(table, pairing), (table, told))
        self.assertIs(is_heaviest(table, told), True)
        return weight(table, pairing)

    def test_worked_out_by_hand(self):
        self.assertEqual(heaviest(TABLE)[0], (1, 0))
        self.assertEqual(self.assert_right(TABLE), 7)
        self.assertEqual(heaviest(((9, 3), (4, 0)))[0], (0, None))
        self.assertEqual(self.assert_right(((9, 3), (4, 0))), 9)
        self.assertEqual(heaviest(((0, 0), (0, 2)))[0], (None, 1))
        self.assertEqual(self.assert_right(((1, 2, 3), (2, 4, 6), (3, 6, 9))), 14)

    def test_without_wishes(self):
        for n in range(2, 7):
            self.assertEqual(heaviest(square(n)), ((None,) * n, [0] * n, [0] * n))

    def test_all_tables_of_two_and_some_of_three_lines(self):
        for counts in itertools.product((0, 1, 2, 5), repeat=4):
            table = (counts[:2], counts[2:])
            self.assertEqual(self.assert_right(table), most_weight(table))
        for counts in itertools.product((0, 1, 3), repeat=8):
            table = (counts[:3], counts[3:6], counts[6:] + (2,))
            self.assertEqual(self.assert_right(table), most_weight(table))

    def test_thin_and_thick_tables(self):
        for table in tables():
            told = self.assert_right(table)
            if len(table) < 6:
                self.assertEqual(told, most_weight(table))

    def test_counts_of_0_and_1(self):
        for table in some_tables(1, 10):
            pairings = [p for p in all_pairings(len(table)) if within(table, p)] if len(table) < 5 else []
            told = self.assert_right(table)
            if pairings:
                self.assertEqual(told, max(len(cells(p)) for p in pairings))

    def test_told_lists_are_the_askers_own(self):
        for table in (TABLE, square(6), square(3, GREATEST)):
            before = copies.deepcopy(heaviest(table))
            pairing, rows, columns = heaviest(table)
            rows.append(9)
            columns.clear()
            self.assertEqual(heaviest(table), before)


class IsHeaviest(unittest.TestCase):
    def assert_wrong(self, table, told):
        self.assertIs(is_heaviest(table, told), False, repr((table, told))[:300])

    def test_what_others_find(self):
        for rows, columns in (([4, 3], [1, 0]), ([3, 2], [2, 0]), ([3, 3], [1, 0])):
            right = rows[0] + columns[0] >= 5 and sum(rows) + sum(columns) == 7
            self.assertIs(is_heaviest(TABLE, ((1, 0), rows, columns)), right)
        self.assertIs(is_heaviest(TABLE, ((1, 0), [3, 2], [2, 0])), True)
        self.assertIs(is_heaviest(TABLE, ((1, 0), [3, 0], [4, 0])), True)
        self.assertIs(is_heaviest(TABLE, ((1, 0), [0, 0], [5, 3])), False)
        for pairing in ((0, 1), (1, 0)):
            self.assertIs(is_heaviest(square(2, 1), (pairing, [1, 1], [0, 0])), True)
            self.assertIs(is_heaviest(square(2, 1), (pairing, [0, 0], [1, 1])), True)
            self.assertIs(is_heaviest(square(2, 1), (pairing, [1, 0], [1, 0])), False)

    def test_all_prices_and_pairings_of_two_lines(self):
        for counts in itertools.product((0, 1, 2), repeat=4):
            table = (counts[:2], counts[2:])
            for pairing in all_pairings(2):
                for prices in itertools.product((0, 1, 2), repeat=4):
                    met = all(table[i][j] <= prices[i] + prices[2 + j] for i in (0, 1) for j in (0, 1))
                    right = met and within(table, pairing) and weight(table, pairing) == sum(prices)
                    told = (pairing, list(prices[:2]), list(prices[2:]))
                    self.assertIs(is_heaviest(table, told), right)

    def test_prices_moved_from_rows_to_columns(self):
        for table in some_tables(9, 4):
            pairing, rows, columns = heaviest(table)
            if None not in pairing:
                for move in (min(rows), -min(columns)):
                    moved = [price - move for price in rows], [price + move for price in columns]
                    self.assertIs(is_heaviest(table, (pairing, *moved)), True)

    def test_a_price_one_more_or_less_or_below_0(self):
        for table in tables()[::3]:
            pairing, rows, columns = heaviest(table)
            for at in range(len(table)):
                for step in (1, -1, GREATEST, SIXTY_FIGURES, -SIXTY_FIGURES):
                    changed = rows[:at] + [rows[at] + step] + rows[at + 1:]
                    self.assert_wrong(table, (pairing, changed, columns))
                    changed = columns[:at] + [columns[at] + step] + columns[at + 1:]
                    self.assert_wrong(table, (pairing, rows, changed))

    def test_below_0_though_all_else_fits(self):
        self.assertIs(is_heaviest(square(2, 1), ((0, 1), [1, 1], [0, 0])), True)
        self.assert_wrong(square(2, 1), ((0, 1), [2, 2], [-1, -1]))
        self.assert_wrong(square(2, 1), ((0, 1), [-1, -1], [2, 2]))
        self.assert_wrong(square(2), ((None, None), [1, 1], [-1, -1]))

    def test_truths(self):
        self.assertIs(is_heaviest(square(2, 1), ((0, 1), [1, 1], [0, 0])), True)
        for wrong in (((0, True), [1, 1], [0, 0]), ((False, 1), [1, 1], [0, 0]), ((0, 1), [True, 1], [0, 0]),
                      ((0, 1), [1, 1], [0, False])):
            self.assert_wrong(square(2, 1), wrong)

    def test_a_pairing_bent(self):
        for table in tables()[::5]:
            pairing, rows, columns = heaviest(table)
            for i, j in cells(pairing):
                for other in [None, *range(-1, len(table) + 1)]:
                    bent = pairing[:i] + (other,) + pairing[i + 1:]
                    told = (bent, rows, columns)
                    self.assertIs(is_heaviest(table, told), self.fits(table, bent))
                    self.assertTrue(other != j or is_heaviest(table, told))

    def fits(self, table, bent):
        """Whether a heaviest pairing that was bent is a heaviest one still."""
        columns = [j for _, j in cells(bent)]
        if len(set(columns)) < len(columns) or not set(columns) <= set(range(len(table))):
            return False
        return within(table, bent) and weight(table, bent) == weight(table, heaviest(table)[0])

    def test_a_cell_that_is_not_wished(self):
        self.assertIs(is_heaviest(((3, 0), (0, 0)), ((0, None), [3, 0], [0, 0])), True)
        self.assert_wrong(((3, 0), (0, 0)), ((0, 1), [3, 0], [0, 0]))
        for n in range(2, 7):
            self.assert_wrong(square(n), (tuple(range(n)), [0] * n, [0] * n))

    def test_another_weight(self):
        # The prices pay each cell, but a pairing of this weight is not shown to be a heaviest one.
        self.assert_wrong(TABLE, ((0, None), [3, 2], [2, 0]))
        self.assert_wrong(TABLE, ((0, None), [5, 0], [0, 0]))
        self.assert_wrong(TABLE, ((None, None), [0, 0], [0, 0]))

    def test_lists_too_short_or_too_long(self):
        for table in (TABLE, square(3), square(2, 1)):
            pairing, rows, columns = heaviest(table)
            for wrong in (rows + [0], rows[:-1], [], rows * 2, [rows]):
                self.assert_wrong(table, (pairing, wrong, columns))
            for wrong in (columns + [0], columns[:-1], [], columns * 2, [columns]):
                self.assert_wrong(table, (pairing, rows, wrong))
            for wrong in (pairing + (None,), pairing[:-1], ()):
                self.assert_wrong(table, (wrong, rows, columns))

    def test_other_kinds(self):
        for table in some_tables(3, 1):
            pairing, rows, columns = heaviest(table)
            for wrong in ([pairing, rows, columns], (list(pairing), rows, columns), (pairing, tuple(rows), columns),
                          (pairing, rows, tuple(columns)), (pairing, rows), (pairing, rows, columns, columns), (),
                          (pairing,), (pairing, rows, columns, None), (rows, columns, pairing), pairing, None,
                          (pairing, [str(price) for price in rows], columns)):
                self.assert_wrong(table, wrong)

    def test_anything(self):
        pairing, rows, columns = (1, 0), [3, 2], [2, 0]
        self.assertIs(is_heaviest(TABLE, (pairing, rows, columns)), True)
        for thing in odd_things() + deep_things():
            before = copies.deepcopy(thing)
            for wrong in (thing, (thing,) * 3, (thing, rows, columns), (pairing, thing, columns),
                          (pairing, rows, thing), (pairing, [thing, 2], columns), ((1, thing), rows, columns)):
                if type(thing) is not int:
                    self.assert_wrong(TABLE, wrong)
            self.assertEqual(thing, before)

    def test_ten_thousand_prices(self):
        self.assert_wrong(TABLE, ((1, 0), [0] * 4000, [0] * 4000))
        self.assert_wrong(TABLE, ((None,) * 9000, [3, 2], [2, 0]))


if __name__ == "__main__":
    unittest.main()
