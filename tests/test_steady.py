import copy
import itertools
import random
import unittest

from beatswitch.steady import best_columns, best_rows, is_steady, lower, not_outdone, upper
from models import all_sets, not_outdone_ones, precedes, some_rows, steady_sets
from samples import SIXTY_FIGURES, deep_things, odd_things

# Two rows that want each other's column first, and columns that want the other row's piece.
CROSSED = [[(2, 0, 1), (3, 1, 0)], [(5, 1, 1), (7, 0, 0)]]
THREE = [
    [(0, 0, 2), (1, 1, 1), (2, 2, 0)],
    [(3, 1, 2), (4, 2, 1), (5, 0, 0)],
    [(6, 2, 2), (7, 0, 1), (8, 1, 0)],
]


def empty(n):
    return [[] for _ in range(n)]


def many_rows():
    """Rows of 2 to 6 lines, thin and crowded ones, all small enough for all sets to be tried out."""
    told = [CROSSED, THREE] + [empty(n) for n in range(2, 7)]
    for n, most in ((2, 9), (3, 9), (4, 8), (5, 8), (6, 8)):
        for seed in range(25):
            told.append(some_rows(n, seed % most + 1, 100 * n + seed, 1 + seed % 4, seed % 5 == 0))
    return told


def crossed_rows(n, seed):
    """Rows in which each row has a piece for each column, and the columns' wishes are others than theirs."""
    chance = random.Random(seed)
    numbers = iter(chance.sample(range(1000), n * n))
    rows = []
    for _ in range(n):
        columns = chance.sample(range(n), n)
        rows.append([(next(numbers), column, chance.randrange(10)) for column in columns])
    return rows


def place(rows, number):
    """Of a piece its row, and its place in it."""
    for at, row in enumerate(rows):
        for spot, piece in enumerate(row):
            if piece[0] == number:
                return at, spot
    return None


def piece(rows, number):
    at, spot = place(rows, number)
    return rows[at][spot]


def by_rows(rows, chosen):
    return {place(rows, number)[0]: place(rows, number)[1] for number in chosen}


def by_columns(rows, chosen):
    return {piece(rows, number)[1]: piece(rows, number) for number in chosen}


class IsSteady(unittest.TestCase):
    def assert_not_steady(self, rows, thing):
        self.assertIs(is_steady(rows, thing), False, repr((rows, thing))[:300])

    def test_worked_out_by_hand(self):
        self.assertIs(is_steady(CROSSED, [2, 5]), True)
        self.assertIs(is_steady(CROSSED, [3, 7]), True)
        for thing in ([], [2], [3], [5], [7], [2, 3], [2, 7], [3, 5], [5, 7], [2, 3, 5, 7]):
            self.assert_not_steady(CROSSED, thing)

    def test_rows_without_pieces_and_with_one(self):
        for n in range(2, 7):
            rows = empty(n)
            self.assertIs(is_steady(rows, []), True)
            self.assert_not_steady(rows, [0])
            rows[n - 1].append((0, n - 1, 9))
            self.assertIs(is_steady(rows, [0]), True)
            for thing in ([], [1], [0, 0], [False], [-1], (0,), [0, 1]):
                self.assert_not_steady(rows, thing)

    def test_behind_another_one(self):
        rows = [[(0, 0, 0), (1, 1, 0)], []]
        self.assertIs(is_steady(rows, [0]), True)
        self.assert_not_steady(rows, [1])
        self.assert_not_steady(rows, [0, 1])

    def test_preceded_at_its_column(self):
        rows = [[(0, 0, 5)], [(1, 0, 4)], [(2, 0, 4)]]
        self.assertIs(is_steady(rows, [1]), True)
        self.assert_not_steady(rows, [0])
        self.assert_not_steady(rows, [2])
        self.assert_not_steady(rows, [0, 1])

    def test_several_pieces_of_one_cell(self):
        rows = [[(4, 1, 3), (1, 1, 3)], [(2, 1, 3)]]
        # The piece 4 is in front of 1, and 2 precedes 4: neither of the row is outdone by 4.
        self.assertEqual([thing for thing in ([1], [2], [4]) if is_steady(rows, thing)], [[1]])

    def test_all_sets_of_small_rows(self):
        for rows in many_rows():
            right = steady_sets(rows)
            self.assertTrue(right)
            numbers = sorted(piece[0] for row in rows for piece in row)
            for many in range(len(rows) + 2):
                for thing in itertools.combinations(numbers, many):
                    self.assertIs(is_steady(rows, list(thing)), list(thing) in right)

    def test_a_number_more_or_less_or_another_one(self):
        for rows in many_rows():
            numbers = [piece[0] for row in rows for piece in row]
            for told in (best_rows(rows), best_columns(rows)):
                strange = [number for number in range(50) if number not in numbers][0]
                for number in told:
                    self.assert_not_steady(rows, [other for other in told if other != number])
                    self.assert_not_steady(rows, sorted(told + [number]))
                    self.assert_not_steady(rows, sorted([other for other in told if other != number] + [strange]))
                for wrong in (strange, -1, SIXTY_FIGURES, -SIXTY_FIGURES):
                    self.assert_not_steady(rows, sorted(told + [wrong]))

    def test_not_rising(self):
        for rows in many_rows():
            told = best_rows(rows)
            for other in itertools.permutations(told):
                self.assertIs(is_steady(rows, list(other)), list(other) == told)

    def test_truths(self):
        rows = [[(0, 0, 0)], [(1, 1, 0)]]
        self.assertIs(is_steady(rows, [0, 1]), True)
        for thing in ([False, 1], [0, True], [False, True], True, False):
            self.assert_not_steady(rows, thing)

    def test_other_kinds(self):
        for rows in many_rows():
            told = best_rows(rows)
            wrong = [tuple(told), [told], (told,), [tuple(told)], {number: True for number in told}, None]
            wrong += [[str(number) for number in told] + [""], [(number,) for number in told] + [()]]
            for thing in wrong:
                self.assert_not_steady(rows, thing)

    def test_anything(self):
        for rows in (CROSSED, empty(6), [[(SIXTY_FIGURES, 0, 0)], []]):
            for thing in odd_things() + deep_things():
                if thing != []:
                    self.assert_not_steady(rows, thing)
                before = copy.deepcopy(thing)
                for other in ([thing], [2, thing], [thing, 5], [2, 5, thing]):
                    self.assertIs(type(is_steady(rows, other)), bool)
                self.assertEqual(thing, before)
            self.assert_not_steady(rows, list(range(10000)))
            self.assert_not_steady(rows, [2, 5] * 5000)


class NotOutdone(unittest.TestCase):
    def test_worked_out_by_hand(self):
        self.assertEqual(not_outdone(CROSSED, []), 2)
        self.assertEqual(not_outdone(CROSSED, [2]), 5)
        self.assertEqual(not_outdone(CROSSED, [3]), 2)
        self.assertEqual(not_outdone(CROSSED, [5]), 2)
        self.assertEqual(not_outdone(CROSSED, [7]), 3)
        self.assertIs(not_outdone(CROSSED, [2, 5]), None)
        self.assertIs(not_outdone(CROSSED, [3, 7]), None)

    def test_the_least_number_wherever_it_stands(self):
        self.assertEqual(not_outdone([[(9, 0, 0), (4, 1, 0)], [(6, 0, 0)]], []), 4)
        self.assertEqual(not_outdone([[(9, 0, 0)], [(6, 0, 0), (4, 1, 0)]], [9]), 4)
        self.assertEqual(not_outdone([[(0, 0, 0)], []], []), 0)
        self.assertEqual(not_outdone([[(SIXTY_FIGURES, 0, 0)], []], []), SIXTY_FIGURES)

    def test_all_sets_of_small_rows(self):
        for rows in many_rows():
            for chosen in all_sets(rows):
                wrong = not_outdone_ones(rows, chosen)
                self.assertEqual(not_outdone(rows, chosen), min(wrong) if wrong else None)

    def test_rows_without_pieces(self):
        for n in range(2, 7):
            self.assertIs(not_outdone(empty(n), []), None)


class Best(unittest.TestCase):
    def test_worked_out_by_hand(self):
        self.assertEqual(best_rows(CROSSED), [2, 5])
        self.assertEqual(best_columns(CROSSED), [3, 7])
        self.assertEqual(best_rows(THREE), [0, 3, 6])
        self.assertEqual(best_columns(THREE), [2, 5, 8])
        self.assertIn([1, 4, 7], steady_sets(THREE))

    def test_rows_without_pieces_and_with_one(self):
        for n in range(2, 7):
            rows = empty(n)
            self.assertEqual((best_rows(rows), best_columns(rows)), ([], []))
            rows[n - 1].append((5, 0, 9))
            self.assertEqual((best_rows(rows), best_columns(rows)), ([5], [5]))

    def assert_best(self, rows):
        right = steady_sets(rows)
        for_rows, for_columns = best_rows(rows), best_columns(rows)
        self.assertIn(for_rows, right)
        self.assertIn(for_columns, right)
        own, columns = by_rows(rows, for_rows), by_columns(rows, for_columns)
        for chosen in right:
            self.assertEqual(sorted(by_rows(rows, chosen)), sorted(own))
            self.assertEqual(sorted(by_columns(rows, chosen)), sorted(columns))
            for row, spot in by_rows(rows, chosen).items():
                self.assertLessEqual(own[row], spot)
            for column, other in by_columns(rows, chosen).items():
                self.assertFalse(precedes(other, columns[column]))
        return len(right)

    def test_small_rows(self):
        for rows in many_rows():
            self.assert_best(rows)

    def test_rows_with_a_piece_for_each_column(self):
        sizes = []
        for n, many in ((2, 60), (3, 60), (4, 12)):
            sizes += [self.assert_best(crossed_rows(n, seed)) for seed in range(many)]
        self.assertGreater(max(sizes), 2)

    def test_many_pieces(self):
        for n in range(2, 7):
            rows = some_rows(n, 600, n, 10, True)
            for told in (best_rows(rows), best_columns(rows)):
                self.assertEqual(len(told), n)
                self.assertIs(is_steady(rows, told), True)
                self.assertEqual(not_outdone_ones(rows, told), [])


class UpperAndLower(unittest.TestCase):
    def test_worked_out_by_hand(self):
        for one, other in (([2, 5], [3, 7]), ([3, 7], [2, 5])):
            self.assertEqual(upper(CROSSED, one, other), [2, 5])
            self.assertEqual(lower(CROSSED, one, other), [3, 7])
        # In this one the two rows ahead cross and the two behind do, so that sets can be mixed.
        rows = CROSSED + [[(12, 2, 1), (13, 3, 0)], [(15, 3, 1), (17, 2, 0)]]
        self.assertEqual(upper(rows, [2, 5, 13, 17], [3, 7, 12, 15]), [2, 5, 12, 15])
        self.assertEqual(lower(rows, [2, 5, 13, 17], [3, 7, 12, 15]), [3, 7, 13, 17])

    def assert_right(self, rows, one, other, right):
        over, under = upper(rows, one, other), lower(rows, one, other)
        self.assertIn(over, right)
        self.assertIn(under, right)
        first, second = by_rows(rows, one), by_rows(rows, other)
        self.assertEqual(by_rows(rows, over), {row: min(first[row], second[row]) for row in first})
        self.assertEqual(by_rows(rows, under), {row: max(first[row], second[row]) for row in first})
        first, second = by_columns(rows, one), by_columns(rows, other)
        for column, told in by_columns(rows, under).items():
            ahead = second[column] if precedes(second[column], first[column]) else first[column]
            self.assertEqual(told, ahead)

    def test_all_pairs_of_steady_sets(self):
        rows_of_all = many_rows() + [crossed_rows(n, seed) for n in (3, 4) for seed in range(12)]
        mixed = 0
        for rows in rows_of_all + [CROSSED + [[(12, 2, 1), (13, 3, 0)], [(15, 3, 1), (17, 2, 0)]]]:
            right = steady_sets(rows)
            for one, other in itertools.product(right, right):
                self.assert_right(rows, one, other, right)
                mixed += upper(rows, one, other) not in (one, other)
        self.assertGreater(mixed, 0)

    def test_a_set_with_itself(self):
        for rows in many_rows():
            told = best_rows(rows)
            for ask in (upper, lower):
                self.assertEqual(ask(rows, told, told), told)
                self.assertIsNot(ask(rows, told, told), told)


class Own(unittest.TestCase):
    def test_nothing_handed_in_is_changed(self):
        for rows in many_rows():
            before = copy.deepcopy(rows)
            one, other = best_rows(rows), best_columns(rows)
            kept = list(one), list(other)
            is_steady(rows, one)
            not_outdone(rows, other)
            upper(rows, one, other)
            lower(rows, one, other)
            self.assertEqual(rows, before)
            self.assertEqual((one, other), kept)

    def test_told_lists_are_the_askers_own(self):
        for ask in (best_rows, best_columns):
            first = ask(CROSSED)
            before = list(first)
            first.append(99)
            self.assertEqual(ask(CROSSED), before)
        one, other = [2, 5], [3, 7]
        for ask in (upper, lower):
            ask(CROSSED, one, other).clear()
            self.assertEqual((one, other), ([2, 5], [3, 7]))

    def test_kinds(self):
        for told in (best_rows(THREE), best_columns(THREE), upper(THREE, [0, 3, 6], [2, 5, 8])):
            self.assertIs(type(told), list)
            self.assertEqual({type(number) for number in told}, {int})


if __name__ == "__main__":
    unittest.main()
