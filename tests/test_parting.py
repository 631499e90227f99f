import copy
import itertools
import unittest

from beatswitch.parting import is_parted, parted
from beatswitch.tables import greatest_line
from samples import (
    GREATEST, SIXTY_FIGURES, chained, deep_things, mixed, odd_things, some_tables, square, turned)

TABLE = ((2, 1, 0), (1, 0, 2), (0, 0, 1))


def alike(n):
    """Tables all lines of which have the same sum."""
    told = []
    for step in range(1, n + 1):
        counts = [k + 1 if k < step else 0 for k in range(n)]
        told.append(tuple(tuple(counts[(i + j) % n] for j in range(n)) for i in range(n)))
    return told


class Parted(unittest.TestCase):
    def assert_right(self, table):
        n = len(table)
        parts = parted(table)
        self.assertIs(type(parts), list)
        self.assertLessEqual(len(parts), 2 * n * (n + 1))
        counts = [[0] * n for _ in range(n)]
        for part in parts:
            self.assertIs(type(part), tuple)
            pairing, beats = part
            self.assertIs(type(pairing), tuple)
            self.assertEqual(len(pairing), n)
            columns = [j for j in pairing if j is not None]
            self.assertGreater(len(columns), 0)
            self.assertEqual(len(set(columns)), len(columns))
            self.assertIs(type(beats), int)
            self.assertGreaterEqual(beats, 1)
            for i, j in enumerate(pairing):
                if j is not None:
                    counts[i][j] += beats
        self.assertEqual(tuple(tuple(row) for row in counts), table)
        self.assertEqual(sum(beats for _, beats in parts), greatest_line(table)[0])
        self.assertIs(is_parted(table, parts), True)

    def test_thin_and_thick_tables(self):
        for most in (1, 2, 1000, GREATEST):
            for table in some_tables(most):
                self.assert_right(table)

    def test_all_small_tables(self):
        for counts in itertools.product(range(4), repeat=4):
            self.assert_right((counts[:2], counts[2:]))
        for counts in itertools.product(range(2), repeat=9):
            self.assert_right((counts[:3], counts[3:6], counts[6:]))

    def test_all_lines_alike(self):
        for n in range(2, 7):
            for table in alike(n) + [square(n, 1), square(n, GREATEST)]:
                self.assert_right(table)

    def test_one_line_alone(self):
        for n in range(2, 7):
            for at in range(n):
                rows = [[0] * n for _ in range(n)]
                rows[at] = [GREATEST - k for k in range(n)]
                table = tuple(tuple(row) for row in rows)
                self.assert_right(table)
                self.assert_right(turned(table))

    def test_one_piece_beside_great_counts(self):
        for n in range(2, 7):
            rows = [[GREATEST] * n for _ in range(n)]
            rows[n - 1][0] = 1
            self.assert_right(tuple(tuple(row) for row in rows))

    def test_along_chains(self):
        for n in range(2, 7):
            for seed in range(10):
                self.assert_right(mixed(chained(n), seed))
                self.assert_right(mixed(turned(chained(n)), seed))

    def test_without_pieces(self):
        for n in range(2, 7):
            self.assertEqual(parted(square(n)), [])

    def test_a_single_wish(self):
        self.assertEqual(parted(((0, 5), (0, 0))), [((1, None), 5)])
        self.assertEqual(parted(((0, GREATEST), (0, 0))), [((1, None), GREATEST)])

    def test_a_list_told_is_the_askers_own(self):
        for table in (TABLE, square(6), square(6, 3)):
            before = parted(table)
            first = parted(table)
            self.assertIsNot(first, before)
            first.append(((9, 9), 9))
            first[0] = None
            self.assertEqual(parted(table), before)


class IsParted(unittest.TestCase):
    def assert_wrong(self, table, thing):
        self.assertIs(is_parted(table, thing), False, repr((table, thing))[:200])

    def assert_right(self, table, thing):
        self.assertIs(is_parted(table, thing), True, repr((table, thing))[:200])

    def test_worked_out_by_hand(self):
        # The right cells, but in four beats where three do.
        self.assert_wrong(TABLE, [((0, 2, None), 2), ((1, 0, None), 1), ((None, None, 2), 1)])
        parts = [((0, 2, None), 2), ((1, 0, 2), 1)]
        self.assert_right(TABLE, parts)
        self.assert_right(TABLE, parts[::-1])
        self.assert_right(TABLE, [parts[1], ((0, 2, None), 1), ((0, 2, None), 1)])

    def test_other_parts_of_the_same_table(self):
        table = square(3, 1)
        self.assert_right(table, [((0, 1, 2), 1), ((1, 2, 0), 1), ((2, 0, 1), 1)])
        self.assert_right(table, [((0, 2, 1), 1), ((1, 0, 2), 1), ((2, 1, 0), 1)])
        self.assert_wrong(table, [((0, 2, 1), 1), ((1, 2, 0), 1), ((2, 0, 1), 1)])

    def test_in_another_order(self):
        for table in some_tables(1000, 4):
            parts = parted(table)
            self.assert_right(table, parts[::-1])
            self.assert_right(table, parts[1:] + parts[:1])
            self.assert_right(table, sorted(parts, key=repr))

    def test_one_part_in_two_of_fewer_beats(self):
        for table in some_tables(1000, 4):
            parts = parted(table)
            for at, (pairing, beats) in enumerate(parts):
                if beats > 1:
                    two = [(pairing, beats // 2), (pairing, beats - beats // 2)]
                    self.assert_right(table, parts[:at] + two + parts[at + 1:])
                    self.assert_right(table, parts[:at] + two[:1] + parts[at + 1:] + two[1:])

    def test_a_part_left_out_or_told_twice(self):
        for table in some_tables(GREATEST, 4):
            parts = parted(table)
            for at in range(len(parts)):
                self.assert_wrong(table, parts[:at] + parts[at + 1:])
                self.assert_wrong(table, parts[:at + 1] + parts[at:])

    def test_other_beats(self):
        for table in some_tables(GREATEST, 4):
            parts = parted(table)
            for at, (pairing, beats) in enumerate(parts):
                odd = [
                    beats + 1, beats - 1, 0, -1, -beats, True, False, None, str(beats), [beats],
                    (beats,), SIXTY_FIGURES, -SIXTY_FIGURES, beats + SIXTY_FIGURES]
                for other in odd:
                    self.assert_wrong(table, parts[:at] + [(pairing, other)] + parts[at + 1:])

    def test_a_beat_passed_on_to_another_part(self):
        self.assert_right(((3, 2), (2, 3)), [((0, 1), 3), ((1, 0), 2)])
        self.assert_wrong(((3, 2), (2, 3)), [((0, 1), 4), ((1, 0), 1)])
        self.assert_wrong(((3, 2), (2, 3)), [((0, 1), 2), ((1, 0), 3)])

    def test_truths_and_parts_without_beats(self):
        table = ((1, 0), (0, 0))
        self.assert_right(table, [((0, None), 1)])
        self.assert_wrong(table, [((0, None), True)])
        self.assert_wrong(table, [((False, None), 1)])
        self.assert_wrong(table, [((0, None), 1), ((0, None), 0)])
        self.assert_wrong(table, [((0, None), 2), ((0, None), -1)])

    def test_an_empty_pairing(self):
        for table in some_tables(2, 3):
            n = len(table)
            for beats in (0, 1, 2):
                self.assert_wrong(table, parted(table) + [((None,) * n, beats)])
        self.assert_wrong(((1, 1), (0, 0)), [((0, None), 1), ((1, None), 1), ((None, None), 1)])
        self.assert_wrong(square(2), [((None, None), 1)])

    def test_more_beats_than_the_greatest_line(self):
        self.assert_wrong(((1, 0), (0, 1)), [((0, None), 1), ((None, 1), 1)])
        self.assert_wrong(square(2, 1), [((0, None), 1), ((None, 0), 1), ((1, None), 1), ((None, 1), 1)])

    def test_lists_for_tuples_and_a_tuple_for_the_list(self):
        for table in some_tables(2, 3):
            parts = parted(table)
            self.assert_wrong(table, tuple(parts))
            for at, (pairing, beats) in enumerate(parts):
                odd = [
                    [pairing, beats], (list(pairing), beats), (pairing,), (pairing, beats, beats), (),
                    (beats, pairing), pairing, beats, None, (pairing[1:], beats), (pairing + (None,), beats)]
                for other in odd:
                    self.assert_wrong(table, parts[:at] + [other] + parts[at + 1:])

    def test_a_pairing_bent(self):
        for table in some_tables(2, 3):
            parts = parted(table)
            for at, (pairing, beats) in enumerate(parts):
                for i, other in itertools.product(range(len(table)), [None, *range(-1, len(table) + 1)]):
                    bent = pairing[:i] + (other,) + pairing[i + 1:]
                    if bent != pairing:
                        self.assert_wrong(table, parts[:at] + [(bent, beats)] + parts[at + 1:])

    def test_as_many_tuples_as_may_be(self):
        for n in range(2, 7):
            most = 2 * n * (n + 1)
            rows = [[0] * n for _ in range(n)]
            rows[0][n - 1] = most
            table = tuple(tuple(row) for row in rows)
            part = ((n - 1,) + (None,) * (n - 1), 1)
            self.assert_right(table, [part] * most)
            rows[0][n - 1] = most + 1
            table = tuple(tuple(row) for row in rows)
            self.assert_wrong(table, [part] * (most + 1))
            self.assert_right(table, [part] * (most - 1) + [(part[0], 2)])

    def test_the_table_with_one_count_otherwise(self):
        for table in some_tables(2, 3):
            parts = parted(table)
            for i, j in itertools.product(range(len(table)), repeat=2):
                for more in (1, -1):
                    rows = [list(row) for row in table]
                    rows[i][j] += more
                    if rows[i][j] >= 0:
                        self.assert_wrong(tuple(tuple(row) for row in rows), parts)

    def test_without_pieces(self):
        for n in range(2, 7):
            self.assert_right(square(n), [])
            self.assert_wrong(square(n), ())
            self.assert_wrong(square(n), [((0,) + (None,) * (n - 1), 1)])
            self.assert_wrong(square(n, 1), [])

    def test_anything(self):
        parts = parted(TABLE)
        for thing in odd_things() + deep_things():
            others = ([thing], [thing] * 24, parts + [thing], [(thing, 1)], [((0, 2, None), thing)])
            for other in others + ((thing,) if thing != [] else ()):
                before = copy.deepcopy(other)
                self.assert_wrong(TABLE, other)
                self.assertEqual(other, before)


if __name__ == "__main__":
    unittest.main()
