import copy as copies
import unittest

from beatswitch.ideal import Ideal
from beatswitch.keeping import Keeper
from beatswitch.measured import measured
from models import pieces_of, sent_by_ideal, some_history

BY_HAND = [[(0, 0, 0), (1, 0, 0)], [(1, 1, 0)]]


def asked_beat_by_beat(n, history, beats):
    ideal, keeper = Ideal(n), Keeper(n)
    columns, told = [], []
    sent, gone = [], []
    for beat in range(beats):
        for row, column, rank in history[beat] if beat < len(history) else []:
            ideal.come(row, column, rank)
            keeper.come(row, column)
            columns.append(column)
        sent += [columns[number] for number in ideal.beat() if number is not None]
        gone += [columns[number] for number, _ in keeper.beat()]
        told.append(tuple([kept.count(column) for column in range(n)] for kept in (sent, gone)))
    return told


def histories():
    told = [(n, history) for n in range(2, 7) for history in ([], [[]], [[]] * 60)]
    for n in range(2, 7):
        for crowd, share in ((1, 1), (2, 0.5), (4, 0.9)):
            told.append((n, some_history(n, 60, n + crowd, share, crowd)))
            told.append((n, some_history(n, 7, n + crowd, share, crowd, 2)))
    return told


class Measured(unittest.TestCase):
    def test_worked_out_by_hand(self):
        self.assertEqual(measured(2, BY_HAND, 0), [])
        self.assertEqual(measured(2, BY_HAND, 1), [([1, 0], [1, 0])])
        # At beat 1 the keeper lets go 1 or 2 of the row 1, the ideal switch sends both.
        told = [([1, 0], [1, 0]), ([2, 1], [2, 0]), ([2, 1], [2, 1]), ([2, 1], [2, 1])]
        for beats in range(5):
            self.assertEqual(measured(2, BY_HAND, beats), told[:beats])

    def test_against_an_ideal_switch_and_a_keeper(self):
        behind = 0
        for n, history in histories():
            for beats in (0, 1, 2, 6, 7, 8, 30, 59, 60):
                told = measured(n, history, beats)
                self.assertEqual(told, asked_beat_by_beat(n, history, beats))
                behind += sum(sent != gone for sent, gone in told)
        self.assertGreater(behind, 100)

    def test_against_the_words_of_the_document(self):
        for n, history in histories():
            columns = [column for _, column, _ in pieces_of(history)]
            sent = []
            told = measured(n, history, 40)
            for beat, numbers in enumerate(sent_by_ideal(n, history, 40)):
                sent += [columns[number] for number in numbers if number is not None]
                self.assertEqual(told[beat][0], [sent.count(column) for column in range(n)])

    def test_no_number_below_that_of_the_keeper(self):
        for n, history in histories():
            for sent, gone in measured(n, history, 60):
                self.assertTrue(all(one >= other for one, other in zip(sent, gone)))

    def test_in_the_end_all_are_sent_and_gone(self):
        for n, history in histories():
            if len(history) < 10:
                columns = [column for _, column, _ in pieces_of(history)]
                many = [columns.count(column) for column in range(n)]
                self.assertEqual(measured(n, history, 60)[-1], (many, many))

    def test_fewer_beats_than_the_history_has(self):
        history = [[(0, 0, 0)], [(0, 1, 0)], [(0, 0, 0), (1, 1, 0)]]
        told = measured(2, history, 60)
        self.assertEqual(told[2], ([2, 2], [2, 2]))
        for beats in range(4):
            self.assertEqual(measured(2, history, beats), told[:beats])
            self.assertEqual(measured(2, history[:beats], beats), told[:beats])

    def test_more_beats_than_the_history_has(self):
        self.assertEqual(measured(2, [], 3), [([0, 0], [0, 0])] * 3)
        told = measured(3, [[(0, 2, 9), (1, 2, 0), (2, 2, 0)]], 5)
        self.assertEqual(told, [([0, 0, many], [0, 0, many]) for many in (1, 2, 3, 3, 3)])

    def test_the_history_handed_in_stays(self):
        for n, history in histories():
            before = copies.deepcopy(history)
            measured(n, history, 60)
            self.assertEqual(history, before)

    def test_told_lists_are_the_askers_own(self):
        told = measured(2, BY_HAND, 4)
        self.assertEqual({type(told), type(told[0]), type(told[0][0])}, {list, tuple})
        parts = [part for beat in told + measured(2, BY_HAND, 4) for part in beat]
        self.assertEqual(len({id(part) for part in parts}), 16)
        before = copies.deepcopy(told)
        told[0][0].append(9)
        told[1][1].clear()
        self.assertEqual(measured(2, BY_HAND, 4), before)
        self.assertEqual(told[2:], before[2:])


if __name__ == "__main__":
    unittest.main()
