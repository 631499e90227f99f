import copy
import itertools
import unittest

from beatswitch.tables import greatest_line, is_table, line_sum
from samples import GREATEST, SIXTY_FIGURES, nested, odd_things, square


def with_count(table, i, j, count):
    rows = [list(row) for row in table]
    rows[i][j] = count
    return tuple(tuple(row) for row in rows)


class IsTable(unittest.TestCase):
    def assert_no_table(self, thing):
        self.assertIs(is_table(thing), False, repr(thing)[:80])

    def test_two_to_six_lines(self):
        for n in range(9):
            for count in (0, 1, GREATEST):
                self.assertIs(is_table(square(n, count)), 2 <= n <= 6)

    def test_ordinary(self):
        self.assertIs(is_table(((1, 0), (0, 3))), True)
        self.assertIs(is_table(tuple(tuple(range(i, i + 6)) for i in range(6))), True)

    def test_counts(self):
        for n in (2, 6):
            for i, j in itertools.product(range(n), repeat=2):
                for count in (0, 1, GREATEST - 1, GREATEST):
                    self.assertIs(is_table(with_count(square(n), i, j, count)), True)

    def test_no_counts(self):
        wrong = [
            -1, GREATEST + 1, SIXTY_FIGURES, -SIXTY_FIGURES, True, False, None, "", "1",
            [], [1], (), (1,), nested(38, tuple), nested(38, list)]
        for n in (2, 6):
            for i, j in itertools.product(range(n), repeat=2):
                for count in wrong:
                    self.assert_no_table(with_count(square(n), i, j, count))

    def test_rows(self):
        for n in (2, 3, 6):
            for at in range(n):
                for row in ((0,) * (n + 1), (0,) * (n - 1), (), [0] * n, "0" * n, 0, None, True):
                    rows = list(square(n))
                    rows[at] = row
                    self.assert_no_table(tuple(rows))

    def test_too_many_and_too_few_rows(self):
        for n in range(2, 7):
            self.assert_no_table(square(n) + ((0,) * n,))
            self.assert_no_table(square(n)[1:])

    def test_lists(self):
        for n in range(2, 7):
            self.assert_no_table(list(square(n)))
            self.assert_no_table([list(row) for row in square(n)])

    def test_anything(self):
        for thing in odd_things():
            self.assert_no_table(thing)
            self.assert_no_table((thing, thing))
            self.assert_no_table([thing])

    def test_nothing_is_changed(self):
        for thing in odd_things():
            before = copy.deepcopy(thing)
            is_table(thing)
            self.assertEqual(thing, before)


class Sums(unittest.TestCase):
    def test_each_line(self):
        table = ((1, 20, 300), (4000, 50000, 600000), (0, 0, 7))
        rows = [line_sum(table, (0, i)) for i in range(3)]
        columns = [line_sum(table, (1, j)) for j in range(3)]
        self.assertEqual(rows, [321, 654000, 7])
        self.assertEqual(columns, [4001, 50020, 600307])

    def test_greatest_counts(self):
        for n in range(2, 7):
            for line in itertools.product((0, 1), range(n)):
                self.assertEqual(line_sum(square(n, GREATEST), line), n * GREATEST)
                self.assertEqual(line_sum(square(n), line), 0)

    def test_a_line_beyond_the_table_raises_nothing(self):
        for line in ((0, 2), (1, 2), (0, 6), (1, 6), (0, -1), (1, -1)):
            self.assertEqual(line_sum(((1, 2), (3, 4)), line), 0)


class GreatestLine(unittest.TestCase):
    def test_one_line_alone(self):
        for n in (2, 3, 6):
            for at in range(n):
                row = [0] * n
                row[at] = 5
                by_columns = tuple(tuple(row) for _ in range(n))
                by_rows = tuple(zip(*by_columns))
                self.assertEqual(greatest_line(by_columns), (5 * n, (1, at)))
                self.assertEqual(greatest_line(by_rows), (5 * n, (0, at)))

    def test_a_row_ahead_of_a_column(self):
        self.assertEqual(greatest_line(((0, 0), (4, 0))), (4, (0, 1)))
        self.assertEqual(greatest_line(((0, 0, 0), (0, 0, 0), (1, 2, 3))), (6, (0, 2)))
        self.assertEqual(greatest_line(((1, 0, 0), (2, 0, 0), (3, 3, 0))), (6, (0, 2)))

    def test_the_least_number_first(self):
        self.assertEqual(greatest_line(((0, 1), (2, 3), )), (5, (0, 1)))
        self.assertEqual(greatest_line(((0, 0, 0), (0, 4, 0), (0, 0, 4))), (4, (0, 1)))
        self.assertEqual(greatest_line(((0, 2, 2), (0, 2, 2), (0, 2, 2))), (6, (1, 1)))

    def test_all_lines_alike(self):
        for n in range(2, 7):
            for count in (0, 1, GREATEST):
                self.assertEqual(greatest_line(square(n, count)), (n * count, (0, 0)))

    def test_all_small_tables(self):
        for counts in itertools.product(range(4), repeat=4):
            table = (counts[:2], counts[2:])
            sums = {line: line_sum(table, line) for line in itertools.product((0, 1), (0, 1))}
            most = max(sums.values())
            least = min(line for line in sums if sums[line] == most)
            self.assertEqual(greatest_line(table), (most, least))


if __name__ == "__main__":
    unittest.main()
