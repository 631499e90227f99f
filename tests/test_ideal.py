import random
import unittest

from beatswitch.errors import NoLine, NoPiece, TooMany
from beatswitch.ideal import Ideal
from models import IdealModel, coming

FAR = 10 ** 59


def state(ideal, n, many):
    waiting = [ideal.waiting(column) for column in range(n)]
    return ideal.beats(), waiting, [ideal.due(number) for number in range(many)]


class Ordinary(unittest.TestCase):
    def test_a_new_one(self):
        for n in range(2, 7):
            ideal = Ideal(n)
            self.assertEqual(ideal.beats(), 0)
            self.assertEqual([ideal.waiting(column) for column in range(n)], [[]] * n)
            self.assertEqual(ideal.beat(), [None] * n)
            self.assertEqual(ideal.beats(), 1)

    def test_worked_out_by_hand(self):
        ideal = Ideal(3)
        self.assertEqual([ideal.come(0, 1, 5), ideal.come(1, 1, 5), ideal.come(2, 1, 4)], [0, 1, 2])
        self.assertEqual(ideal.waiting(1), [2, 0, 1])
        self.assertEqual([ideal.due(number) for number in range(3)], [1, 2, 0])
        self.assertEqual(ideal.beat(), [None, 2, None])
        self.assertEqual([ideal.come(2, 1, 0), ideal.come(0, 0, 9)], [3, 4])
        self.assertEqual(ideal.waiting(1), [3, 0, 1])
        self.assertEqual([ideal.due(number) for number in range(5)], [2, 3, 0, 1, 1])
        self.assertEqual(ideal.beat(), [4, 3, None])
        self.assertEqual(ideal.beat(), [None, 0, None])
        self.assertEqual(ideal.beat(), [None, 1, None])
        self.assertEqual(ideal.beat(), [None, None, None])
        self.assertEqual(ideal.beats(), 5)
        self.assertEqual([ideal.due(number) for number in range(5)], [2, 3, 0, 1, 1])

    def test_equal_ranks_by_numbers(self):
        ideal = Ideal(6)
        for row in (3, 5, 0, 4, 1, 2):
            ideal.come(row, 2, 7)
        self.assertEqual(ideal.waiting(2), [0, 1, 2, 3, 4, 5])
        self.assertEqual([ideal.beat()[2] for _ in range(6)], [0, 1, 2, 3, 4, 5])

    def test_all_ranks(self):
        ideal = Ideal(6)
        for row in range(6):
            ideal.come(row, 0, 9 - row)
        self.assertEqual(ideal.waiting(0), [5, 4, 3, 2, 1, 0])
        self.assertEqual(ideal.beat()[0], 5)
        for row in range(4):
            ideal.come(row, 0, 3 - row)
        self.assertEqual(ideal.waiting(0), [9, 8, 7, 6, 4, 3, 2, 1, 0])
        self.assertEqual([ideal.beat()[0] for _ in range(10)], [9, 8, 7, 6, 4, 3, 2, 1, 0, None])

    def test_ranks_unlike_and_alike(self):
        ideal = Ideal(6)
        for row, rank in enumerate((9, 0, 5, 0, 9, 1)):
            ideal.come(row, 5, rank)
        self.assertEqual(ideal.waiting(5), [1, 3, 5, 2, 0, 4])
        self.assertEqual([ideal.due(number) for number in range(6)], [4, 0, 3, 1, 5, 2])

    def test_each_column_sends_one(self):
        ideal = Ideal(4)
        for row in range(4):
            ideal.come(row, 3 - row, row)
        self.assertEqual(ideal.beat(), [3, 2, 1, 0])

    def test_pieces_of_one_row_at_following_beats(self):
        ideal = Ideal(2)
        for number in range(20):
            self.assertEqual(ideal.come(0, 1, 3), number)
            self.assertEqual(ideal.beat(), [None, number])
            self.assertEqual(ideal.due(number), number)

    def test_beats_without_pieces(self):
        ideal = Ideal(3)
        for beats in range(1, 40):
            self.assertEqual(ideal.beat(), [None] * 3)
            self.assertEqual(ideal.beats(), beats)
        ideal.come(2, 0, 9)
        self.assertEqual(ideal.due(0), 39)
        self.assertEqual(ideal.beat(), [0, None, None])
        self.assertEqual(ideal.due(0), 39)

    def test_due_put_off_by_further_pieces(self):
        ideal = Ideal(2)
        ideal.come(0, 0, 5)
        for number in range(1, 11):
            self.assertEqual(ideal.due(0), number - 1)
            ideal.come(1, 0, 4)
            self.assertEqual(ideal.due(0), number)
            self.assertEqual(ideal.due(number), number - 1)
            ideal.beat()
        # What comes with a greater rank, or the same one, puts nothing off.
        ideal.come(0, 0, 5)
        ideal.come(1, 0, 9)
        self.assertEqual([ideal.due(number) for number in (0, 11, 12)], [10, 11, 12])

    def test_kinds(self):
        ideal = Ideal(2)
        self.assertIs(type(ideal.come(0, 0, 0)), int)
        self.assertIs(type(ideal.due(0)), int)
        self.assertIs(type(ideal.waiting(0)), list)
        self.assertIs(type(ideal.beat()), list)
        self.assertIs(type(ideal.beats()), int)


class Refused(unittest.TestCase):
    def assert_no_line(self, ideal, n, many, row, column, at):
        before = state(ideal, n, many)
        with self.assertRaises(NoLine) as held:
            ideal.come(row, column, 3)
        self.assertEqual(held.exception.at, at)
        self.assertEqual(state(ideal, n, many), before)

    def test_lines_that_are_none(self):
        for n in range(2, 7):
            ideal = Ideal(n)
            ideal.come(0, 0, 0)
            # The row 0 has its piece, and the row n - 1 has none: no line goes ahead of too many.
            for wrong in (-1, -n, n, n + 1, FAR, -FAR):
                for right in (0, n - 1):
                    self.assert_no_line(ideal, n, 1, wrong, right, 0)
                    self.assert_no_line(ideal, n, 1, right, wrong, 1)
                for other in (-1, n, FAR, -FAR):
                    self.assert_no_line(ideal, n, 1, wrong, other, 0)

    def test_columns_that_are_none(self):
        for n in range(2, 7):
            ideal = Ideal(n)
            for wrong in (-1, -n, n, n + 1, FAR, -FAR):
                with self.assertRaises(NoLine) as held:
                    ideal.waiting(wrong)
                self.assertEqual(held.exception.at, 1)

    def test_a_second_piece_of_a_row(self):
        for n in (2, 6):
            ideal = Ideal(n)
            for beat in range(3):
                for row in range(n):
                    ideal.come(row, 0, 9)
                before = state(ideal, n, (beat + 1) * n)
                for row in range(n):
                    for column in range(n):
                        self.assertRaises(TooMany, ideal.come, row, column, 0)
                self.assertEqual(state(ideal, n, (beat + 1) * n), before)
                ideal.beat()

    def test_numbers_go_on_behind_a_refusal(self):
        ideal = Ideal(2)
        self.assertEqual(ideal.come(0, 0, 0), 0)
        self.assertRaises(TooMany, ideal.come, 0, 1, 0)
        self.assertRaises(NoLine, ideal.come, 2, 2, 0)
        self.assertEqual(ideal.come(1, 0, 0), 1)
        ideal.beat()
        # A refused piece of this row does not count as one that came.
        self.assertRaises(NoLine, ideal.come, 1, 2, 0)
        self.assertEqual(ideal.come(1, 1, 0), 2)

    def test_no_piece(self):
        ideal = Ideal(3)
        for many in range(3):
            for wrong in (many, many + 1, -1, -many - 1, FAR, -FAR, 10 ** 5000):
                before = state(ideal, 3, many)
                with self.assertRaises(NoPiece) as held:
                    ideal.due(wrong)
                self.assertEqual(held.exception.number, wrong)
                self.assertEqual(state(ideal, 3, many), before)
            ideal.come(many, 1, 5)
        ideal.beat()
        self.assertEqual(ideal.due(0), 0)
        self.assertRaises(NoPiece, ideal.due, 3)


class Own(unittest.TestCase):
    def test_told_lists_changed_behind_the_telling(self):
        ideal = Ideal(2)
        ideal.come(0, 1, 5)
        ideal.come(1, 1, 5)
        told = ideal.waiting(1)
        told.reverse()
        ideal.waiting(0).append(7)
        self.assertEqual([ideal.waiting(0), ideal.waiting(1)], [[], [0, 1]])
        kept = ideal.waiting(1)
        sent = ideal.beat()
        self.assertEqual(kept, [0, 1])
        sent[1] = 9
        self.assertEqual(ideal.beat(), [None, 1])
        self.assertEqual(sent, [None, 9])
        self.assertEqual([ideal.due(0), ideal.due(1)], [0, 1])
        self.assertIsNot(ideal.waiting(0), ideal.waiting(0))
        self.assertIsNot(ideal.beat(), ideal.beat())

    def test_two_by_turns(self):
        one, other = Ideal(2), Ideal(2)
        self.assertEqual(one.come(0, 0, 0), 0)
        self.assertEqual(other.come(0, 1, 0), 0)
        self.assertEqual(one.beat(), [0, None])
        self.assertEqual((one.beats(), other.beats()), (1, 0))
        self.assertRaises(TooMany, other.come, 0, 0, 0)
        self.assertEqual(one.come(0, 0, 0), 1)
        self.assertRaises(NoPiece, other.due, 1)
        self.assertEqual(other.beat(), [None, 0])


class Runs(unittest.TestCase):
    def run_beside_model(self, n, share, crowd, ranks, beats):
        chance = random.Random(100 * n + ranks)
        ideal, model = Ideal(n), IdealModel(n)
        for _ in range(beats):
            for piece in coming(n, chance, share, crowd, ranks):
                self.assertEqual(ideal.come(*piece), model.come(*piece))
            for column in range(n):
                self.assertEqual(ideal.waiting(column), model.waiting(column))
            if chance.random() < 0.2:
                for number in range(model.came):
                    self.assertEqual(ideal.due(number), model.due(number))
            self.assertEqual(ideal.beat(), model.beat())
            self.assertEqual(ideal.beats(), model.beats)

    def test_beside_the_model(self):
        for n in range(2, 7):
            for crowd, ranks in ((1, 10), (2, 3), (3, 1)):
                self.run_beside_model(n, 0.6, crowd, ranks, 20)

    def test_many_pieces(self):
        ideal = Ideal(6)
        for beat in range(500):
            for row in range(6):
                ideal.come(row, 0, (row + beat) % 10)
            ideal.beat()
        self.assertEqual(len(ideal.waiting(0)), 2500)
        due = [ideal.due(number) for number in range(3000)]
        self.assertEqual(sorted(due), list(range(3000)))
        self.assertEqual([ideal.beat()[0] for _ in range(2500)], sorted(range(3000), key=lambda k: due[k])[500:])
        self.assertEqual([ideal.due(number) for number in range(3000)], due)


if __name__ == "__main__":
    unittest.main()
