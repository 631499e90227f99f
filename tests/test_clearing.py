import copy
import itertools
import unittest

from beatswitch.clearing import behind, cleared, latest
from beatswitch.errors import NotFull
from beatswitch.pairings import is_full
from beatswitch.tables import greatest_line
from beatswitch.waves import wave
from samples import (
    GREATEST, SIXTY_FIGURES, all_pairings, deep_things, odd_things, some_tables, square)

FAR = 10 ** 59
TABLE = ((1, 0, 2), (0, 0, 3), (4, 0, 0))
RUN = [(2, None, 0), (0, 2, None), (2, None, 0), (None, 2, 0), (None, 2, 0)]


def less(table, pairing):
    rows = [list(row) for row in table]
    for i, j in enumerate(pairing):
        if j is not None:
            rows[i][j] -= 1
    return tuple(tuple(row) for row in rows)


def full_pairings(table):
    told = [p for p in all_pairings(len(table)) if is_full(table, p)]
    return [p for p in told if p != (None,) * len(table)]


def poor_run(table):
    """A run whose pairings have as few cells as a full one may have."""
    told = []
    rest = table
    while any(any(row) for row in rest):
        told.append(max(full_pairings(rest), key=lambda p: p.count(None)))
        rest = less(rest, told[-1])
    return told


class Behind(unittest.TestCase):
    def assert_refused(self, table, pairings, at):
        before = copy.deepcopy(pairings)
        with self.assertRaises(NotFull, msg=repr(pairings)[:200]) as held:
            behind(table, pairings)
        self.assertEqual(held.exception.at, at)
        self.assertIs(type(held.exception.at), int)
        self.assertEqual(pairings, before)

    def test_worked_out_by_hand(self):
        tables = [
            TABLE, ((1, 0, 1), (0, 0, 3), (3, 0, 0)), ((0, 0, 1), (0, 0, 2), (3, 0, 0)),
            ((0, 0, 0), (0, 0, 2), (2, 0, 0)), ((0, 0, 0), (0, 0, 1), (1, 0, 0)), square(3)]
        for many, expected in enumerate(tables):
            self.assertEqual(behind(TABLE, RUN[:many]), expected)

    def test_the_empty_list(self):
        for table in some_tables(6, 2) + [square(2), square(6, GREATEST)]:
            self.assertEqual(behind(table, []), table)

    def test_as_long_as_the_table_lasts(self):
        for table in some_tables(6, 3):
            for run in (cleared(table, 0), cleared(table, FAR)):
                rest = table
                for many in range(len(run) + 1):
                    self.assertEqual(behind(table, run[:many]), rest)
                    if many < len(run):
                        rest = less(rest, run[many])
                self.assertEqual(rest, square(len(table)))

    def test_great_counts(self):
        table = ((GREATEST, GREATEST), (GREATEST, GREATEST))
        expected = ((GREATEST - 3, GREATEST), (GREATEST, GREATEST - 3))
        self.assertEqual(behind(table, [(0, 1)] * 3), expected)

    def test_each_pairing_of_small_tables(self):
        for counts in itertools.product(range(3), repeat=4):
            table = (counts[:2], counts[2:])
            for pairing in all_pairings(2):
                if pairing in full_pairings(table):
                    self.assertEqual(behind(table, [pairing]), less(table, pairing))
                else:
                    self.assert_refused(table, [pairing], 0)

    def test_one_more_behind_the_last_one(self):
        for table in some_tables(3, 2):
            n = len(table)
            run = cleared(table, 1)
            for more in ((None,) * n, (0,) + (None,) * (n - 1), tuple(range(n)), None, (), []):
                self.assert_refused(table, run + [more], len(run))

    def test_one_that_is_none_as_first_middle_and_last(self):
        odd = odd_things() + deep_things() + [
            (None, None, None), (1, None, None), (0, None, 0), (2, None), (2, None, 0, None),
            [2, None, 0], (-1, 2, None), (3, 2, None), (SIXTY_FIGURES, 2, 0), (False, 2, None),
            (None, 2, False), (None, None, 0), (2, None, None), "2 0", ((2, None, 0), 1)]
        for at in range(len(RUN)):
            for thing in odd:
                self.assert_refused(TABLE, RUN[:at] + [thing] + RUN[at + 1:], at)
                self.assert_refused(TABLE, RUN[:at] + [thing], at)

    def test_one_left_out_or_told_twice(self):
        table = ((1, 0), (0, 2))
        self.assertEqual(behind(table, [(0, 1), (None, 1)]), square(2))
        self.assert_refused(table, [(None, 1)], 0)
        self.assert_refused(table, [(0, 1), (0, 1)], 1)
        self.assert_refused(table, [(0, 1), (None, 1), (None, 1)], 2)
        table = ((2, 0), (0, 3))
        self.assert_refused(table, [(0, 1), (None, 1)], 1)
        self.assertEqual(behind(table, [(0, 1), (0, 1)]), ((0, 0), (0, 1)))
        self.assert_refused(TABLE, RUN[:1] + RUN[:1] + RUN[1:], 3)
        self.assert_refused(TABLE, RUN[:2] + RUN[1:], 2)
        self.assert_refused(TABLE, RUN + RUN[-1:], 5)
        self.assertEqual(behind(TABLE, RUN[1:]), ((0, 0, 1), (0, 0, 0), (1, 0, 0)))
        self.assertEqual(behind(TABLE, RUN[:2] + RUN[3:]), ((0, 0, 1), (0, 0, 0), (1, 0, 0)))

    def test_full_in_the_table_but_not_where_it_stands(self):
        self.assert_refused(((1, 1), (0, 0)), [(0, None), (0, None)], 1)
        self.assert_refused(((1, 1), (1, 1)), [(0, 1), (0, 1)], 1)
        self.assertEqual(behind(((1, 1), (1, 1)), [(0, 1), (1, 0)]), square(2))

    def test_two_at_once(self):
        for first, second in itertools.combinations(range(len(RUN)), 2):
            run = list(RUN)
            run[first] = None
            run[second] = (0, 0, 0)
            self.assert_refused(TABLE, run, first)

    def test_the_table_without_pieces(self):
        for n in range(2, 7):
            self.assert_refused(square(n), [(None,) * n], 0)

    def test_ten_thousand_parts(self):
        self.assert_refused(TABLE, [(None, None, None)] * 2400, 0)
        self.assert_refused(TABLE, RUN + [[]] * 9900, 5)


class Cleared(unittest.TestCase):
    def test_worked_out_by_hand(self):
        table = ((1, 1), (0, 2))
        self.assertEqual(cleared(table, 0), [(0, 1), (1, None), (None, 1)])
        self.assertEqual(cleared(table, 1), [(1, None), (0, 1), (None, 1)])

    def test_the_waves_in_turn(self):
        for most in (1, 6, 9):
            for table in some_tables(most, 2):
                for beat in (0, 1, len(table) - 1, FAR - 1, FAR):
                    run = cleared(table, beat)
                    self.assertIs(type(run), list)
                    rest = table
                    for at, pairing in enumerate(run):
                        self.assertIs(type(pairing), tuple)
                        self.assertNotEqual(rest, square(len(table)))
                        self.assertEqual(pairing, wave(rest, beat + at))
                        rest = less(rest, pairing)
                    self.assertEqual(rest, square(len(table)))
                    self.assertEqual(behind(table, run), rest)

    def test_without_pieces(self):
        for n in range(2, 7):
            for beat in (0, n - 1, FAR):
                self.assertEqual(cleared(square(n), beat), [])

    def test_a_list_told_is_the_askers_own(self):
        before = cleared(TABLE, 0)
        first = cleared(TABLE, 0)
        first.pop()
        self.assertEqual(cleared(TABLE, 0), before)
        empty = cleared(square(2), 0)
        empty.append(None)
        self.assertEqual(cleared(square(2), 0), [])

    def test_each_wish_within_as_many_beats_as_there_are_lines(self):
        for table in some_tables(6, 3):
            n = len(table)
            for beat in (0, 1, n - 1, FAR):
                run = cleared(table, beat)
                for i, j in itertools.product(range(n), repeat=2):
                    if table[i][j]:
                        self.assertIn(j, [pairing[i] for pairing in run[:n]])


class Latest(unittest.TestCase):
    def test_worked_out_by_hand(self):
        self.assertEqual(latest(TABLE, 0, 0), 7)
        self.assertEqual(latest(TABLE, 0, 2), 6)
        self.assertEqual(latest(TABLE, 1, 2), 5)
        self.assertEqual(latest(TABLE, 2, 0), 5)
        for cell in ((0, 1), (1, 0), (1, 1), (2, 1), (2, 2)):
            self.assertEqual(latest(TABLE, *cell), 0)

    def test_great_counts(self):
        for most in (6, GREATEST):
            for table in some_tables(most, 4):
                for i, j in itertools.product(range(len(table)), repeat=2):
                    expected = 0
                    if table[i][j]:
                        expected = sum(table[i]) + sum(row[j] for row in table) - table[i][j]
                    self.assertEqual(latest(table, i, j), expected)
        for n in range(2, 7):
            self.assertEqual(latest(square(n, GREATEST), n - 1, 0), (2 * n - 1) * GREATEST)
            self.assertEqual(latest(square(n), n - 1, 0), 0)

    def test_a_cell_that_is_none_has_no_pieces(self):
        for n in (2, 6):
            for row, column in ((n, 0), (0, n), (-1, 0), (0, -1), (FAR, FAR)):
                self.assertEqual(latest(square(n, 5), row, column), 0)

    def assert_empty_in_time(self, table, run):
        n = len(table)
        for i, j in itertools.product(range(n), repeat=2):
            self.assertEqual(behind(table, run[:latest(table, i, j)])[i][j], 0)
        cells = itertools.product(range(n), repeat=2)
        self.assertLessEqual(len(run), max(latest(table, i, j) for i, j in cells))
        if run:
            self.assertLess(len(run), 2 * greatest_line(table)[0])

    def test_no_cell_has_pieces_behind_its_latest(self):
        for table in some_tables(6, 2):
            for beat in (0, 1):
                self.assert_empty_in_time(table, cleared(table, beat))
            if len(table) <= 4:
                self.assert_empty_in_time(table, poor_run(table))

    def test_in_each_run_of_small_tables(self):
        for counts in itertools.product(range(3), repeat=4):
            table = (counts[:2], counts[2:])
            for run in self.runs(table):
                self.assert_empty_in_time(table, run)

    def runs(self, table):
        if table == square(2):
            return [[]]
        return [[p] + run for p in full_pairings(table) for run in self.runs(less(table, p))]


if __name__ == "__main__":
    unittest.main()
