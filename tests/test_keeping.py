import random
import unittest

from beatswitch.errors import NoLine
from beatswitch.keeping import Keeper
from beatswitch.tables import is_table
from beatswitch.waves import wave
from samples import square

FAR = 10 ** 59


class Model:
    """A keeper by the words of the document, as one list of all pieces that stand."""

    def __init__(self, n):
        self.n = n
        self.came = 0
        self.beats = 0
        self.pieces = []

    def come(self, row, column):
        self.pieces.append([self.came, row, column, 0])
        self.came += 1
        return self.came - 1

    def waiting(self, row, column):
        return [piece[0] for piece in self.pieces if piece[1:3] == [row, column]]

    def table(self):
        return tuple(tuple(len(self.waiting(i, j)) for j in range(self.n)) for i in range(self.n))

    def beat(self):
        told = []
        for i, j in enumerate(wave(self.table(), self.beats)):
            if j is not None:
                first = [piece for piece in self.pieces if piece[1:3] == [i, j]][0]
                self.pieces.remove(first)
                told.append((first[0], first[3]))
        for piece in self.pieces:
            piece[3] += 1
        self.beats += 1
        return told


def state(keeper, n):
    return keeper.beats(), keeper.table(), [keeper.waiting(i, j) for i in range(n) for j in range(n)]


class Ordinary(unittest.TestCase):
    def test_a_new_one(self):
        for n in range(2, 7):
            keeper = Keeper(n)
            self.assertEqual(keeper.beats(), 0)
            self.assertEqual(keeper.table(), square(n))
            self.assertEqual(state(keeper, n)[2], [[]] * (n * n))

    def test_worked_out_by_hand(self):
        keeper = Keeper(2)
        numbers = [keeper.come(*cell) for cell in ((0, 1), (0, 0), (1, 1), (0, 1))]
        self.assertEqual(numbers, [0, 1, 2, 3])
        self.assertEqual(keeper.table(), ((1, 2), (0, 1)))
        self.assertEqual(keeper.waiting(0, 1), [0, 3])
        self.assertEqual(keeper.beat(), [(1, 0), (2, 0)])
        self.assertEqual(keeper.come(1, 0), 4)
        self.assertEqual(keeper.beat(), [(0, 1), (4, 0)])
        self.assertEqual(keeper.waiting(0, 1), [3])
        self.assertEqual(keeper.come(1, 1), 5)
        self.assertEqual(keeper.beat(), [(5, 0)])
        self.assertEqual(keeper.beat(), [(3, 3)])
        self.assertEqual(keeper.beats(), 4)
        self.assertEqual(keeper.beat(), [])

    def test_kinds(self):
        keeper = Keeper(3)
        keeper.come(0, 2)
        self.assertIs(type(keeper.come(0, 2)), int)
        self.assertIs(is_table(keeper.table()), True)
        self.assertIs(type(keeper.waiting(0, 2)), list)
        told = keeper.beat()
        self.assertIs(type(told), list)
        self.assertIs(type(told[0]), tuple)
        self.assertIs(type(keeper.beats()), int)

    def test_several_pieces_for_one_cell(self):
        for n in (2, 6):
            keeper = Keeper(n)
            for number in range(10):
                self.assertEqual(keeper.come(n - 1, 0), number)
            for number in range(10):
                self.assertEqual(keeper.waiting(n - 1, 0), list(range(number, 10)))
                self.assertEqual(keeper.table()[n - 1][0], 10 - number)
                self.assertEqual(keeper.beat(), [(number, number)])
            self.assertEqual(keeper.waiting(n - 1, 0), [])

    def test_waited_from_a_later_beat_on(self):
        keeper = Keeper(2)
        for _ in range(5):
            self.assertEqual(keeper.beat(), [])
        keeper.come(0, 0)
        keeper.come(0, 1)
        # Beat 5 begins with the diagonal of (0, 1).
        self.assertEqual(keeper.beat(), [(1, 0)])
        self.assertEqual(keeper.beat(), [(0, 1)])
        self.assertEqual(keeper.beats(), 7)

    def test_beats_without_pieces(self):
        for n in range(2, 7):
            keeper = Keeper(n)
            for beats in range(1, 30):
                self.assertEqual(keeper.beat(), [])
                self.assertEqual(keeper.beats(), beats)
                self.assertEqual(keeper.table(), square(n))

    def test_by_rows(self):
        keeper = Keeper(6)
        for row in (3, 5, 0, 4, 1, 2):
            keeper.come(row, row)
        self.assertEqual(keeper.beat(), [(2, 0), (4, 0), (5, 0), (0, 0), (3, 0), (1, 0)])

    def test_the_wave_of_the_beat(self):
        for n in (2, 6):
            keeper = Keeper(n)
            for row in range(n):
                for column in range(n):
                    for _ in range(3):
                        keeper.come(row, column)
            for beat in range(3 * n + 2):
                table = keeper.table()
                pairing = wave(table, beat)
                first = [keeper.waiting(i, j)[0] for i, j in enumerate(pairing) if j is not None]
                self.assertEqual([number for number, _ in keeper.beat()], first)
            self.assertEqual(keeper.table(), square(n))


class Refused(unittest.TestCase):
    def assert_no_line(self, keeper, n, row, column, at):
        before = state(keeper, n)
        for ask in (keeper.come, keeper.waiting):
            with self.assertRaises(NoLine) as held:
                ask(row, column)
            self.assertEqual(held.exception.at, at)
        self.assertEqual(state(keeper, n), before)

    def test_lines_that_are_none(self):
        for n in range(2, 7):
            keeper = Keeper(n)
            keeper.come(0, 0)
            for wrong in (-1, -n, n, n + 1, FAR, -FAR):
                for right in (0, n - 1):
                    self.assert_no_line(keeper, n, wrong, right, 0)
                    self.assert_no_line(keeper, n, right, wrong, 1)
                for other in (-1, n, FAR, -FAR):
                    self.assert_no_line(keeper, n, wrong, other, 0)

    def test_numbers_go_on_behind_a_refusal(self):
        keeper = Keeper(2)
        self.assertEqual(keeper.come(0, 0), 0)
        self.assert_no_line(keeper, 2, 0, 2, 1)
        self.assert_no_line(keeper, 2, 2, 2, 0)
        self.assertEqual(keeper.come(0, 0), 1)
        self.assertEqual(keeper.beat(), [(0, 0)])
        self.assert_no_line(keeper, 2, -1, 0, 0)
        self.assertEqual(keeper.beat(), [(1, 1)])
        self.assertEqual(keeper.come(1, 1), 2)


class Own(unittest.TestCase):
    def test_told_lists_changed_behind_the_telling(self):
        keeper = Keeper(3)
        for _ in range(3):
            keeper.come(1, 2)
        before = state(keeper, 3)
        waiting = keeper.waiting(1, 2)
        waiting.clear()
        keeper.waiting(0, 0).append(9)
        self.assertEqual(state(keeper, 3), before)
        kept = keeper.waiting(1, 2)
        gone = keeper.beat()
        self.assertEqual(kept, [0, 1, 2])
        gone.append((9, 9))
        self.assertEqual(keeper.beat(), [(1, 1)])
        self.assertEqual(gone, [(0, 0), (9, 9)])

    def test_no_two_told_lists_are_one(self):
        keeper = Keeper(2)
        self.assertIsNot(keeper.waiting(0, 0), keeper.waiting(0, 0))
        self.assertIsNot(keeper.waiting(0, 0), keeper.waiting(0, 1))
        self.assertIsNot(keeper.beat(), keeper.beat())

    def test_two_keepers_by_turns(self):
        one, other = Keeper(3), Keeper(3)
        models = Model(3), Model(3)
        chance = random.Random(5)
        for _ in range(120):
            for keeper, model in zip((one, other), models):
                cell = chance.randrange(3), chance.randrange(3)
                self.assertEqual(keeper.come(*cell), model.come(*cell))
                if chance.random() < 0.3:
                    self.assertEqual(keeper.beat(), model.beat())
                self.assertEqual(keeper.table(), model.table())
        self.assertNotEqual(one.table(), other.table())


class Runs(unittest.TestCase):
    def run_beside_model(self, n, share, rounds):
        chance = random.Random(n * 1000 + round(share * 100))
        keeper, model = Keeper(n), Model(n)
        came, gone = [], []
        places = {}
        for at in range(rounds):
            if chance.random() < share:
                row, column = chance.randrange(n), min(chance.randrange(n), chance.randrange(n))
                number = keeper.come(row, column)
                self.assertEqual(number, model.come(row, column))
                places[number] = (row, column, len(keeper.waiting(row, column)))
                came.append(number)
            else:
                told = keeper.beat()
                self.assertEqual(told, model.beat())
                gone += told
            self.assertEqual(keeper.table(), model.table())
            self.assertEqual(keeper.beats(), model.beats)
        while any(any(row) for row in keeper.table()):
            told = keeper.beat()
            self.assertEqual(told, model.beat())
            gone += told
        self.assertEqual(sorted(number for number, _ in gone), came)
        self.assert_in_time(n, gone, places)

    def assert_in_time(self, n, gone, places):
        last = {}
        for number, waited in gone:
            row, column, turn = places[number]
            self.assertLess(waited, n * turn)
            # Of one cell they go in the order in which they came.
            self.assertGreater(number, last.get((row, column), -1))
            last[row, column] = number

    def test_hundreds_of_pieces_and_beats(self):
        for n in range(2, 7):
            for share in (0.3, 0.7, 0.9):
                self.run_beside_model(n, share, 400)

    def test_many_pieces_of_few_cells(self):
        for n in range(2, 7):
            keeper = Keeper(n)
            places = {}
            for k in range(300):
                cell = (0, k % n) if k % 3 else (k % n, 0)
                number = keeper.come(*cell)
                places[number] = cell + (len(keeper.waiting(*cell)),)
            gone = []
            for _ in range(600):
                gone += keeper.beat()
            self.assertEqual(len(gone), 300)
            self.assert_in_time(n, gone, places)


if __name__ == "__main__":
    unittest.main()
