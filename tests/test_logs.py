import copy as copies
import random
import unittest

from beatswitch.copying import Copy
from beatswitch.ideal import Ideal
from beatswitch.logs import is_log, sent
from beatswitch.steady import best_columns
from models import coming, rows_of
from samples import SIXTY_FIGURES, deep_things, odd_things

BY_HAND = [([(0, 0, 0), (1, 0, 0)], [0], [1]), ([(1, 1, 9)], [2], []), ([], [], [])]


def without(rows, chosen):
    return [[piece for piece in row if piece[0] not in chosen] for row in rows]


def some_log(n, beats, seed, handed=False, crowd=4):
    """The log of a copy, with what it sent."""
    chance = random.Random(seed)
    copy, pieces, told = Copy(n), [], []
    for _ in range(beats):
        for piece in coming(n, chance, 0.9, crowd):
            copy.come(*piece)
            pieces.append(piece)
        if handed:
            first = best_columns(rows_of(copy, n, pieces))
            told.append(copy.beat_with(first, best_columns(without(rows_of(copy, n, pieces), first))))
        else:
            told.append(copy.beat())
    return copy.log(), told


def sent_by_ideal(n, log):
    ideal, told = Ideal(n), []
    for comes, _, _ in log:
        for piece in comes:
            ideal.come(*piece)
        told.append(ideal.beat())
    return told


def with_beat(log, at, comes=None, first=None, second=None):
    """The log with other parts at one beat."""
    beat = tuple(new if new is not None else old for new, old in zip((comes, first, second), log[at]))
    return log[:at] + [beat] + log[at + 1:]


class Right(unittest.TestCase):
    def assert_right(self, n, log, told):
        before = copies.deepcopy(log)
        self.assertIs(is_log(n, log), True)
        self.assertEqual(sent(n, log), told)
        self.assertEqual(sent_by_ideal(n, log), told)
        self.assertEqual(log, before)

    def test_worked_out_by_hand(self):
        self.assert_right(2, BY_HAND, [[0, None], [1, 2], [None, None]])
        self.assertIs(is_log(2, [([(0, 0, 0), (1, 0, 0)], [1], [0])]), False)
        self.assertIs(is_log(2, [([(0, 0, 0), (1, 0, 0)], [0], [])]), False)

    def test_what_copies_tell(self):
        unlike = 0
        for n in range(2, 7):
            for seed in range(6):
                told = [some_log(n, 20, seed, handed) for handed in (False, True)]
                for log, beats in told:
                    self.assert_right(n, log, beats)
                self.assertEqual(told[0][1], told[1][1])
                unlike += told[0][0] != told[1][0]
        self.assertGreater(unlike, 5)

    def test_the_empty_log(self):
        for n in range(2, 7):
            self.assert_right(n, [], [])

    def test_beats_without_pieces(self):
        for n in range(2, 7):
            for many in (1, 2, 100):
                self.assert_right(n, [([], [], []) for _ in range(many)], [[None] * n] * many)

    def test_cut_short(self):
        for n in (2, 6):
            log, told = some_log(n, 15, 3)
            for many in range(16):
                self.assert_right(n, log[:many], told[:many])

    def test_a_hundred_beats_and_one_more(self):
        for n in (2, 6):
            log, told = some_log(n, 101, 5, True, 1)
            self.assertIs(is_log(n, log), False)
            self.assert_right(n, log[:100], told[:100])
            self.assertIs(is_log(n, [([], [], [])] * 101), False)

    def test_the_same_list_at_several_places(self):
        nothing = []
        self.assert_right(2, [(nothing, nothing, nothing)] * 3, [[None, None]] * 3)

    def test_told_lists_are_the_askers_own(self):
        log, told = some_log(3, 10, 1)
        one, other = sent(3, log), sent(3, log)
        self.assertEqual(len({id(part) for part in one + other}), 20)
        for beat in one:
            beat.clear()
        self.assertEqual((other, sent(3, log)), (told, told))
        self.assertEqual([type(part) for part in (other, other[0])], [list, list])


class Wrong(unittest.TestCase):
    def assert_wrong(self, n, thing):
        self.assertIs(is_log(n, thing), False, repr(thing)[:300])

    def logs(self):
        for n in (2, 3, 6):
            for seed in range(3):
                yield n, some_log(n, 8, seed, seed == 1)[0]

    def test_a_set_with_a_piece_more_less_or_another_one(self):
        for n, log in self.logs():
            for at, (_, first, second) in enumerate(log):
                for number in first + second:
                    less = [other for other in first if other != number]
                    if less != first:
                        self.assert_wrong(n, with_beat(log, at, first=less))
                        self.assert_wrong(n, with_beat(log, at, first=sorted(less + [1000])))
                    less = [other for other in second if other != number]
                    if less != second:
                        self.assert_wrong(n, with_beat(log, at, second=less))
                        self.assert_wrong(n, with_beat(log, at, second=sorted(less + [1000])))
                for wrong in (1000, -1, SIXTY_FIGURES, -SIXTY_FIGURES, 0):
                    self.assert_wrong(n, with_beat(log, at, first=sorted(first + [wrong])))
                    self.assert_wrong(n, with_beat(log, at, second=sorted(second + [wrong])))

    def test_sets_exchanged_or_not_rising(self):
        for n, log in self.logs():
            for at, (_, first, second) in enumerate(log):
                if first != second:
                    self.assert_wrong(n, with_beat(log, at, first=second, second=first))
                if len(first) > 1:
                    self.assert_wrong(n, with_beat(log, at, first=first[::-1]))
                if len(second) > 1:
                    self.assert_wrong(n, with_beat(log, at, second=second[::-1]))

    def test_beats_exchanged_or_left_out(self):
        log = [([(0, 0, 0)], [0], []), ([(1, 1, 0)], [1], [])]
        self.assertIs(is_log(2, log), True)
        for thing in (log[::-1], log[1:], log[:1] * 2):
            self.assert_wrong(2, thing)

    def test_a_second_piece_of_a_row(self):
        for n, log in self.logs():
            for at, (comes, _, _) in enumerate(log):
                for row, column, rank in comes:
                    self.assert_wrong(n, with_beat(log, at, comes=comes + [(row, column, rank)]))
                    self.assert_wrong(n, with_beat(log, at, comes=comes + [(row, (column + 1) % n, 9)]))
        # It is refused though both sets would fit what came ahead of it.
        self.assert_wrong(2, [([(0, 0, 0), (0, 0, 0)], [0], [1])])

    def test_lines_that_are_none(self):
        for wrong in (2, 3, -1, -2, SIXTY_FIGURES, -SIXTY_FIGURES, None, "0", True, False, (0,), [0], ""):
            self.assert_wrong(2, [([(wrong, 0, 0)], [0], [])])
            self.assert_wrong(2, [([(0, wrong, 0)], [0], [])])
        self.assertIs(is_log(2, [([(1, 1, 0)], [0], [])]), True)
        self.assertIs(is_log(3, [([(2, 2, 0)], [0], [])]), True)
        self.assert_wrong(2, [([(2, 2, 0)], [0], [])])

    def test_ranks_that_are_none(self):
        for rank in range(10):
            self.assertIs(is_log(2, [([(0, 0, rank)], [0], [])]), True)
        for wrong in (10, 11, -1, SIXTY_FIGURES, -SIXTY_FIGURES, True, False, None, "0", (0,), [0], ""):
            self.assert_wrong(2, [([(0, 0, wrong)], [0], [])])

    def test_tuples_for_lists_and_lists_for_tuples(self):
        for log in (BY_HAND, some_log(4, 6, 2)[0]):
            n = 2 if log is BY_HAND else 4
            self.assertIs(is_log(n, log), True)
            self.assert_wrong(n, tuple(log))
            for at, (comes, first, second) in enumerate(log):
                self.assert_wrong(n, with_beat(log, at, comes=tuple(comes)))
                self.assert_wrong(n, with_beat(log, at, first=tuple(first)))
                self.assert_wrong(n, with_beat(log, at, second=tuple(second)))
                self.assert_wrong(n, log[:at] + [list(log[at])] + log[at + 1:])
                for k, piece in enumerate(comes):
                    self.assert_wrong(n, with_beat(log, at, comes=comes[:k] + [list(piece)] + comes[k + 1:]))

    def test_parts_too_many_and_too_few(self):
        for at, beat in enumerate(BY_HAND):
            for wrong in (beat[:2], beat[:1], (), beat + ([],), beat + (None,), beat * 2):
                self.assert_wrong(2, BY_HAND[:at] + [wrong] + BY_HAND[at + 1:])
        for piece in ((), (0,), (0, 0), (0, 0, 0, 0)):
            self.assert_wrong(2, [([piece], [0], [])])
            self.assert_wrong(2, [([piece], [], [])])

    def test_truths_for_numbers(self):
        self.assertIs(is_log(2, [([(0, 0, 0), (1, 1, 0)], [0, 1], [])]), True)
        for wrong in ([False, 1], [0, True]):
            self.assert_wrong(2, [([(0, 0, 0), (1, 1, 0)], wrong, [])])
        self.assertIs(is_log(2, BY_HAND), True)
        self.assert_wrong(2, with_beat(BY_HAND, 0, first=[False]))
        self.assert_wrong(2, with_beat(BY_HAND, 0, second=[True]))

    def test_anything(self):
        for thing in odd_things() + deep_things() + [BY_HAND]:
            before = copies.deepcopy(thing)
            if thing != [] and thing is not BY_HAND:
                self.assert_wrong(2, thing)
            self.assert_wrong(2, [thing])
            self.assert_wrong(2, BY_HAND + [thing])
            for at in range(3):
                piece = tuple(thing if k == at else 0 for k in range(3))
                # Whole numbers are tried out above; some of them are right ones here.
                if type(thing) is not int:
                    self.assert_wrong(2, [([piece], [0], [])])
                beat = tuple(thing if k == at else [] for k in range(3))
                if thing != []:
                    self.assert_wrong(2, [beat])
                self.assert_wrong(2, [tuple([thing] if k == at else [] for k in range(3))])
            self.assertEqual(thing, before)

    def test_ten_thousand_parts(self):
        self.assert_wrong(6, [([(k % 6, 0, 0) for k in range(2400)], [0], [1])])
        self.assert_wrong(6, [([], list(range(9000)), [])])
        self.assert_wrong(6, [([], [], [0] * 9000)])
        self.assert_wrong(6, [([], [], [])] * 2400)


if __name__ == "__main__":
    unittest.main()
