import itertools
import random
import unittest

from beatswitch.errors import NoLine, TooMany
from beatswitch.frames import Frame
from beatswitch.tables import greatest_line
from samples import some_tables, square

FAR = 10 ** 59


def single(n, i, j, count):
    return tuple(tuple(count if (row, column) == (i, j) else 0 for column in range(n)) for row in range(n))


def tables():
    told = [square(n, 1) for n in range(2, 7)] + [square(6, 10), square(2, 30), ((0, 60), (60, 0))]
    told += [single(2, 0, 1, 1), single(6, 5, 0, 1), single(3, 1, 1, 60), ((59, 1), (0, 59))]
    told += [((1, 0), (0, 1)), ((1, 0, 2), (0, 0, 3), (4, 0, 0))]
    many = [table for most in (1, 3, 10) for table in some_tables(most, 2)]
    return told + [table for table in many if 1 <= greatest_line(table)[0] <= 60]


def cells(n):
    return list(itertools.product(range(n), repeat=2))


def round_of(table):
    """The pairings of a round, of a frame of its own."""
    frame = Frame(table)
    told = []
    for _ in range(greatest_line(table)[0]):
        told.append(frame.pairing())
        frame.beat()
    return told


def state(frame, n):
    return frame.beats(), frame.pairing(), [frame.waiting(i, j) for i, j in cells(n)]


class Rounds(unittest.TestCase):
    def test_each_cell_as_often_as_its_count(self):
        for table in tables():
            n = len(table)
            counts = [[0] * n for _ in range(n)]
            for pairing in round_of(table):
                self.assertIs(type(pairing), tuple)
                self.assertEqual(len(pairing), n)
                columns = [j for j in pairing if j is not None]
                self.assertGreater(len(columns), 0)
                self.assertEqual(len(set(columns)), len(columns))
                for i, j in enumerate(pairing):
                    if j is not None:
                        counts[i][j] += 1
            self.assertEqual(tuple(tuple(row) for row in counts), table)

    def test_rounds_are_alike(self):
        for table in tables():
            frame = Frame(table)
            for _ in range(3):
                for pairing in round_of(table):
                    self.assertEqual(frame.pairing(), pairing)
                    self.assertEqual(frame.pairing(), pairing)
                    frame.beat()

    def test_rounds_are_alike_whatever_comes(self):
        chance = random.Random(8)
        for table in tables():
            frame = Frame(table)
            for _ in range(2):
                for pairing in round_of(table):
                    self.assertEqual(frame.pairing(), pairing)
                    for i, j in chance.sample(cells(len(table)), 2):
                        try:
                            frame.come(i, j)
                        except TooMany:
                            pass
                    self.assertEqual(frame.pairing(), pairing)
                    frame.beat()

    def test_beats(self):
        for table in tables()[:12]:
            frame = Frame(table)
            for beats in range(130):
                self.assertEqual(frame.beats(), beats)
                self.assertEqual(frame.beat(), [])

    def test_the_pairing_told_ahead_is_the_one_of_the_beat(self):
        for table in tables():
            frame = Frame(table)
            for i, j in cells(len(table)):
                for _ in range(table[i][j]):
                    frame.come(i, j)
            for _ in range(greatest_line(table)[0]):
                pairing = frame.pairing()
                first = [frame.waiting(i, j)[0] for i, j in enumerate(pairing) if j is not None]
                self.assertEqual(frame.beat(), first)
            self.assertEqual(state(frame, len(table))[2], [[]] * len(table) ** 2)


class Pieces(unittest.TestCase):
    def test_worked_out_by_hand(self):
        frame = Frame(((0, 2), (0, 0)))
        self.assertEqual(frame.pairing(), (1, None))
        self.assertEqual(frame.come(0, 1), 0)
        self.assertEqual(frame.come(0, 1), 1)
        self.assertEqual(frame.waiting(0, 1), [0, 1])
        self.assertEqual(frame.beat(), [0])
        self.assertEqual(frame.beat(), [1])
        self.assertEqual(frame.beat(), [])
        self.assertEqual(frame.come(0, 1), 2)
        self.assertEqual(frame.waiting(0, 1), [2])
        self.assertEqual(frame.beat(), [2])
        self.assertEqual(frame.beats(), 4)

    def test_by_rows(self):
        table = tuple(tuple(1 if i == j else 0 for j in range(6)) for i in range(6))
        frame = Frame(table)
        for row in (3, 5, 0, 4, 1):
            frame.come(row, row)
        self.assertEqual(frame.beat(), [2, 4, 0, 3, 1])

    def test_behind_a_told_pairing(self):
        for table in tables():
            frame = Frame(table)
            pairing = frame.pairing()
            row = [i for i, j in enumerate(pairing) if j is not None][-1]
            self.assertEqual(frame.come(row, pairing[row]), 0)
            self.assertEqual(frame.beat(), [0])

    def test_kinds(self):
        frame = Frame(square(3, 1))
        self.assertIs(type(frame.come(0, 0)), int)
        self.assertIs(type(frame.waiting(0, 0)), list)
        self.assertIs(type(frame.beat()), list)
        self.assertIs(type(frame.beats()), int)

    def run_beside_model(self, table, share):
        n = len(table)
        frame = Frame(table)
        pairings = round_of(table)
        chance = random.Random(n)
        standing = {cell: [] for cell in cells(n)}
        last_round = {}
        came = 0
        for beat in range(5 * len(pairings)):
            if beat % len(pairings) == 0:
                room = {(i, j): table[i][j] for i, j in cells(n)}
            for cell in chance.sample(cells(n), round(share * n * n)):
                if room[cell] == 0:
                    self.assertRaises(TooMany, frame.come, *cell)
                    continue
                room[cell] -= 1
                self.assertEqual(frame.come(*cell), came)
                standing[cell].append(came)
                last_round[came] = beat // len(pairings) + 1
                came += 1
            expected = []
            for i, j in enumerate(pairings[beat % len(pairings)]):
                if j is not None and standing[i, j]:
                    expected.append(standing[i, j].pop(0))
            self.assertEqual(frame.beat(), expected)
            for i, j in cells(n):
                self.assertEqual(frame.waiting(i, j), standing[i, j])
                self.assertLessEqual(len(standing[i, j]), 2 * table[i][j])
                for number in standing[i, j]:
                    self.assertLess(beat + 1, (last_round[number] + 1) * len(pairings))

    def test_several_rounds(self):
        for table in tables():
            for share in (0.3, 1):
                self.run_beside_model(table, share)

    def test_what_stands_is_gone_by_the_end_of_the_next_round(self):
        for table in tables():
            total = greatest_line(table)[0]
            frame = Frame(table)
            for _ in range(total - 1):
                frame.beat()
            # All that a round lets come, ahead of its last beat.
            came = [frame.come(i, j) for i, j in cells(len(table)) for _ in range(table[i][j])]
            gone = frame.beat()
            for i, j in cells(len(table)):
                for _ in range(table[i][j]):
                    frame.come(i, j)
                self.assertLessEqual(len(frame.waiting(i, j)), 2 * table[i][j])
            for _ in range(total):
                gone += frame.beat()
            self.assertEqual(sorted(number for number in gone if number in came), came)


class Refused(unittest.TestCase):
    def assert_too_many(self, frame, n, row, column):
        before = state(frame, n)
        self.assertRaises(TooMany, frame.come, row, column)
        self.assertEqual(state(frame, n), before)

    def assert_no_line(self, frame, n, row, column, at):
        before = state(frame, n)
        for ask in (frame.come, frame.waiting):
            with self.assertRaises(NoLine) as held:
                ask(row, column)
            self.assertEqual(held.exception.at, at)
        self.assertEqual(state(frame, n), before)

    def test_as_many_as_the_count_in_each_round(self):
        for table in tables():
            n = len(table)
            frame = Frame(table)
            number = 0
            for _ in range(3):
                for i, j in cells(n):
                    for _ in range(table[i][j]):
                        self.assertEqual(frame.come(i, j), number)
                        number += 1
                    self.assert_too_many(frame, n, i, j)
                for _ in range(greatest_line(table)[0] - 1):
                    frame.beat()
                    self.assert_too_many(frame, n, 0, 0)
                    self.assert_too_many(frame, n, n - 1, n - 1)
                frame.beat()

    def test_no_more_though_they_are_gone(self):
        frame = Frame(((1, 1), (0, 0)))
        column = frame.pairing()[0]
        frame.come(0, column)
        self.assertEqual(frame.beat(), [0])
        self.assert_too_many(frame, 2, 0, column)
        frame.beat()
        self.assertEqual(frame.come(0, column), 1)

    def test_what_comes_ahead_of_the_last_beat_is_of_its_round(self):
        frame = Frame(((2, 0), (0, 0)))
        frame.beat()
        frame.come(0, 0)
        frame.come(0, 0)
        self.assert_too_many(frame, 2, 0, 0)
        self.assertEqual(frame.beat(), [0])
        self.assertEqual(frame.come(0, 0), 2)
        self.assertEqual(frame.come(0, 0), 3)
        self.assertEqual(frame.waiting(0, 0), [1, 2, 3])
        self.assert_too_many(frame, 2, 0, 0)
        self.assertEqual(frame.beat() + frame.beat(), [1, 2])

    def test_cells_without_pieces(self):
        frame = Frame(((1, 0), (0, 1)))
        for _ in range(3):
            self.assert_too_many(frame, 2, 0, 1)
            self.assert_too_many(frame, 2, 1, 0)
            frame.beat()

    def test_no_line_ahead_of_too_many(self):
        for table in tables()[:9]:
            n = len(table)
            frame = Frame(table)
            for full in (False, True):
                for wrong in (-1, -n, n, n + 1, FAR, -FAR):
                    for right in (0, n - 1):
                        self.assert_no_line(frame, n, wrong, right, 0)
                        self.assert_no_line(frame, n, right, wrong, 1)
                    for other in (-1, n, FAR, -FAR):
                        self.assert_no_line(frame, n, wrong, other, 0)
                for i, j in cells(n):
                    for _ in range(0 if full else table[i][j]):
                        frame.come(i, j)

    def test_numbers_go_on_behind_a_refusal(self):
        frame = Frame(((1, 0), (0, 1)))
        self.assertEqual(frame.come(0, 0), 0)
        self.assert_too_many(frame, 2, 0, 0)
        self.assert_no_line(frame, 2, 2, 0, 0)
        self.assertEqual(frame.come(1, 1), 1)

    def test_somewhat_beyond_the_limits(self):
        for table in (square(2), square(6), square(6, 11), ((100, 0), (0, 61))):
            frame = Frame(table)
            for beats in range(130):
                self.assertEqual(frame.beats(), beats)
                self.assertEqual(frame.beat(), [])
            if not table[0][0]:
                self.assert_too_many(frame, len(table), 0, 0)
                self.assertEqual(frame.pairing(), (None,) * len(table))


class Own(unittest.TestCase):
    def test_told_lists_changed_behind_the_telling(self):
        frame = Frame(((3, 0), (0, 0)))
        for _ in range(3):
            frame.come(0, 0)
        waiting = frame.waiting(0, 0)
        waiting.clear()
        frame.waiting(0, 1).append(9)
        self.assertEqual(frame.waiting(0, 1), [])
        kept = frame.waiting(0, 0)
        gone = frame.beat()
        gone.append(9)
        self.assertEqual(kept, [0, 1, 2])
        self.assertEqual(frame.beat(), [1])
        self.assertEqual(gone, [0, 9])
        self.assertIsNot(frame.waiting(0, 1), frame.waiting(0, 1))
        self.assertIsNot(frame.beat(), frame.beat())

    def test_two_frames_by_turns(self):
        table = ((2, 1), (0, 2))
        one, other = Frame(table), Frame(table)
        self.assertEqual([one.come(0, 0), one.come(0, 0), one.come(1, 1)], [0, 1, 2])
        self.assertEqual(other.come(0, 0), 0)
        one.beat()
        self.assertEqual((one.beats(), other.beats()), (1, 0))
        self.assertEqual(other.waiting(0, 0), [0])
        self.assertEqual(other.come(0, 0), 1)
        self.assertRaises(TooMany, other.come, 0, 0)
        for _ in range(2):
            one.beat()
        self.assertEqual(one.come(0, 0), 3)
        self.assertRaises(TooMany, other.come, 0, 0)
        self.assertEqual(other.waiting(0, 0), [0, 1])


if __name__ == "__main__":
    unittest.main()
