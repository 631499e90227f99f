import copy
import itertools
import unittest

from beatswitch.covers import greatest, is_greatest
from samples import (
    GREATEST, SIXTY_FIGURES, all_pairings, chained, deep_things, mixed, odd_things, some_tables,
    square, turned)

TABLE = ((1, 0, 2), (0, 0, 3), (4, 0, 0))


def cells(pairing):
    return [(i, j) for i, j in enumerate(pairing) if j is not None]


def within(table, pairing):
    return all(table[i][j] for i, j in cells(pairing))


def most_cells(table):
    return max(len(cells(p)) for p in all_pairings(len(table)) if within(table, p))


def chains():
    told = []
    for n in range(2, 7):
        for seed in range(20):
            told += [mixed(chained(n), seed), mixed(turned(chained(n)), seed)]
    return told


class Greatest(unittest.TestCase):
    def assert_right(self, table):
        told = greatest(table)
        self.assertIs(type(told), tuple)
        pairing, lines = told
        self.assertIs(type(pairing), tuple)
        self.assertEqual(len(pairing), len(table))
        self.assertTrue(within(table, pairing), table)
        columns = [j for _, j in cells(pairing)]
        self.assertEqual(len(set(columns)), len(columns))
        self.assertIs(type(lines), list)
        self.assertEqual(lines, sorted(set(lines)))
        self.assertEqual(len(lines), len(columns))
        for i, j in itertools.product(range(len(table)), repeat=2):
            self.assertTrue(not table[i][j] or (0, i) in lines or (1, j) in lines, table)
        for side, number in lines:
            self.assertIn(side, (0, 1))
            self.assertIn(number, range(len(table)))
        self.assertIs(is_greatest(table, told), True)
        return len(columns)

    def test_worked_out_by_hand(self):
        self.assertEqual(greatest(((1, 1), (1, 0))), ((1, 0), greatest(((1, 1), (1, 0)))[1]))
        self.assertEqual(greatest(((5, 5), (0, 0)))[1], [(0, 0)])
        self.assertEqual(greatest(((0, 5), (0, 5)))[1], [(1, 1)])
        self.assertEqual(greatest(((0, 1, 0), (1, 1, 1), (0, 1, 0)))[1], [(0, 1), (1, 1)])

    def test_all_tables_of_two_and_three_lines(self):
        for n in (2, 3):
            for counts in itertools.product((0, 7), repeat=n * n):
                table = tuple(counts[i * n:i * n + n] for i in range(n))
                self.assertEqual(self.assert_right(table), most_cells(table), table)

    def test_thin_and_thick_tables(self):
        for table in some_tables(1, 20):
            size = self.assert_right(table)
            if len(table) <= 4:
                self.assertEqual(size, most_cells(table))

    def test_great_counts(self):
        for table in some_tables(GREATEST, 4):
            wishes = tuple(tuple(min(count, 1) for count in row) for row in table)
            self.assertEqual(self.assert_right(table), self.assert_right(wishes))

    def test_first_choices_given_up_along_a_chain(self):
        for table in chains():
            self.assertEqual(self.assert_right(table), len(table), table)

    def test_without_wishes(self):
        for n in range(2, 7):
            self.assertEqual(greatest(square(n)), ((None,) * n, []))

    def test_all_wishes(self):
        for n in range(2, 7):
            self.assertEqual(self.assert_right(square(n, GREATEST)), n)

    def test_no_pairing_has_more_cells(self):
        for table in some_tables(3, 4):
            if len(table) <= 5:
                self.assertEqual(self.assert_right(table), most_cells(table))

    def test_the_list_is_the_askers_own(self):
        for table in (TABLE, square(6), square(6, 1)):
            before = greatest(table)
            first = greatest(table)[1]
            self.assertIsNot(first, before[1])
            first.append((9, 9))
            self.assertEqual(greatest(table), before)


class IsGreatest(unittest.TestCase):
    def assert_wrong(self, table, told):
        self.assertIs(is_greatest(table, told), False, repr((table, told))[:200])

    def test_what_others_find(self):
        self.assertIs(is_greatest(TABLE, ((0, 2, None), [(0, 1), (1, 0)])), False)
        self.assertIs(is_greatest(TABLE, ((0, 2, None), [(1, 0), (1, 2)])), True)
        self.assertIs(is_greatest(TABLE, ((2, None, 0), [(1, 0), (1, 2)])), True)
        self.assertIs(is_greatest(((1, 0), (0, 1)), ((0, 1), [(0, 0), (0, 1)])), True)
        self.assertIs(is_greatest(((1, 0), (0, 1)), ((0, 1), [(0, 0), (1, 1)])), True)
        self.assertIs(is_greatest(((1, 0), (0, 1)), ((0, 1), [(0, 1), (1, 0)])), True)
        self.assertIs(is_greatest(((1, 0), (0, 1)), ((0, 1), [(0, 0), (1, 0)])), False)

    def test_all_of_two_lines(self):
        every = [(side, number) for side in (0, 1) for number in (0, 1)]
        lists = [list(lines) for many in range(5) for lines in itertools.combinations(every, many)]
        for counts in itertools.product((0, 2), repeat=4):
            table = (counts[:2], counts[2:])
            for pairing, lines in itertools.product(all_pairings(2), lists):
                met = all(
                    not table[i][j] or (0, i) in lines or (1, j) in lines
                    for i, j in itertools.product((0, 1), (0, 1)))
                right = met and within(table, pairing) and len(cells(pairing)) == len(lines)
                self.assertIs(is_greatest(table, (pairing, lines)), right, (table, pairing, lines))

    def test_a_line_left_out_or_twice(self):
        for table in some_tables(1):
            pairing, lines = greatest(table)
            for at in range(len(lines)):
                self.assert_wrong(table, (pairing, lines[:at] + lines[at + 1:]))
                self.assert_wrong(table, (pairing, lines[:at + 1] + lines[at:]))
                twice = lines[:at] + lines[:1] + lines[at + 1:]
                if at > 0:
                    self.assert_wrong(table, (pairing, twice))
                    self.assert_wrong(table, (pairing, sorted(twice)))

    def test_a_line_too_many(self):
        for table in some_tables(1, 3):
            pairing, lines = greatest(table)
            every = [(side, number) for side in (0, 1) for number in range(len(table))]
            for line in every:
                if line not in lines:
                    self.assert_wrong(table, (pairing, sorted(lines + [line])))

    def test_lines_not_rising(self):
        for table in some_tables(1):
            pairing, lines = greatest(table)
            if len(lines) > 1:
                self.assert_wrong(table, (pairing, lines[::-1]))
                self.assert_wrong(table, (pairing, [lines[1], lines[0]] + lines[2:]))
                self.assert_wrong(table, (pairing, lines[:-2] + [lines[-1], lines[-2]]))

    def test_lines_that_are_none(self):
        for table in some_tables(1, 4):
            pairing, lines = greatest(table)
            n = len(table)
            for at, line in enumerate(lines):
                side, number = line
                odd = [
                    list(line), (bool(side), number), (side,), (side, number, 0), (), None, 0,
                    (side, n), (side, -1), (2, number), (-1, number), (side, SIXTY_FIGURES),
                    (SIXTY_FIGURES, number), (side, -SIXTY_FIGURES), (side, None), (side, str(number)),
                    (None, number), "01", (side, (number,)), *deep_things()]
                if number < 2:
                    odd.append((side, bool(number)))
                for other in odd:
                    self.assert_wrong(table, (pairing, lines[:at] + [other] + lines[at + 1:]))

    def test_a_truth_for_a_number(self):
        self.assert_wrong(square(2, 1), ((0, 1), [(False, 0), (0, 1)]))
        self.assert_wrong(square(2, 1), ((0, 1), [(0, False), (0, 1)]))
        self.assert_wrong(square(2, 1), ((0, 1), [(0, 0), (0, True)]))
        self.assert_wrong(square(2, 1), ((0, 1), [(True, 0), (1, 1)]))
        self.assert_wrong(square(2, 1), ((0, True), [(0, 0), (0, 1)]))

    def test_a_pairing_bent(self):
        for table in some_tables(1):
            pairing, lines = greatest(table)
            for (i, j), other in itertools.product(cells(pairing), range(-1, len(table) + 1)):
                bent = pairing[:i] + (other,) + pairing[i + 1:]
                wrong = other not in range(len(table)) or other in pairing or not table[i][other]
                if other != j and wrong:
                    self.assert_wrong(table, (bent, lines))

    def test_a_cell_fewer(self):
        for table in some_tables(1):
            pairing, lines = greatest(table)
            for i, _ in cells(pairing):
                fewer = pairing[:i] + (None,) + pairing[i + 1:]
                self.assert_wrong(table, (fewer, lines))
                for at in range(len(lines)):
                    self.assert_wrong(table, (fewer, lines[:at] + lines[at + 1:]))

    def test_full_though_not_greatest(self):
        for lines in ([], [(0, 0)], [(1, 0)], [(0, 0), (1, 0)], [(0, 0), (0, 1)]):
            self.assert_wrong(((1, 1), (1, 0)), ((0, None), lines))

    def test_lists_for_tuples_and_tuples_for_lists(self):
        for table in some_tables(1, 3):
            pairing, lines = greatest(table)
            self.assert_wrong(table, [pairing, lines])
            self.assert_wrong(table, (list(pairing), lines))
            self.assert_wrong(table, (pairing, tuple(lines)))
            self.assert_wrong(table, (lines, pairing))

    def test_too_many_and_too_few_parts(self):
        pairing, lines = greatest(TABLE)
        for told in ((), (pairing,), (pairing, lines, lines), (pairing, lines, None)):
            self.assert_wrong(TABLE, told)

    def test_anything(self):
        pairing, lines = greatest(TABLE)
        for thing in odd_things() + deep_things():
            for told in (thing, (thing, lines), (pairing, thing), (thing, thing), (pairing, [thing] * 2)):
                before = copy.deepcopy(told)
                self.assert_wrong(TABLE, told)
                self.assertEqual(told, before)

    def test_ten_thousand_lines(self):
        self.assert_wrong(TABLE, ((0, 2, None), [(1, 0), (1, 2)] * 1600))
        self.assert_wrong(square(2), ((None, None), [(0, k) for k in range(3300)]))


if __name__ == "__main__":
    unittest.main()
