import copy as copies
import itertools
import random
import unittest

from beatswitch.copying import Copy
from beatswitch.errors import NoBeat, NoLine, NoPiece, NotSteady, TooMany
from beatswitch.ideal import Ideal
from beatswitch.steady import best_columns, best_rows, is_steady, lower, upper
from models import coming, precedes, rows_of, steady_sets
from samples import SIXTY_FIGURES, deep_things, odd_things

FAR = 10 ** 59


def state(copy, n):
    """All that a copy tells of itself."""
    rows = [copy.standing(row) for row in range(n)]
    columns = [copy.waiting(column) for column in range(n)]
    slacks = [copy.slack(number) for row in rows for number in row]
    return rows, columns, slacks, copy.beats(), copy.passed(), copy.log()


def fill(copy, pieces):
    return [copy.come(*piece) for piece in pieces]


def without(rows, chosen):
    return [[piece for piece in row if piece[0] not in chosen] for row in rows]


class ByHand(unittest.TestCase):
    def test_a_new_one(self):
        for n in range(2, 7):
            copy = Copy(n)
            self.assertEqual(state(copy, n), ([[]] * n, [[]] * n, [], 0, ([], []), []))
            self.assertEqual(copy.beat(), [None] * n)
            self.assertEqual(state(copy, n), ([[]] * n, [[]] * n, [], 1, ([], []), [([], [], [])]))

    def test_one_piece(self):
        copy = Copy(2)
        self.assertEqual(copy.come(0, 1, 9), 0)
        self.assertEqual((copy.standing(0), copy.waiting(1), copy.slack(0)), ([0], [], 0))
        self.assertEqual(copy.beat(), [None, 0])
        self.assertEqual(copy.passed(), ([0], []))
        self.assertEqual((copy.standing(0), copy.waiting(1), copy.beats()), ([], [], 1))

    def test_pieces_for_one_column(self):
        copy = Copy(3)
        self.assertEqual(fill(copy, [(0, 1, 5), (1, 1, 5), (2, 1, 4)]), [0, 1, 2])
        self.assertEqual([copy.standing(row) for row in range(3)], [[0], [1], [2]])
        self.assertEqual(copy.beat(), [None, 2, None])
        # In the second step the first of the two others passed.
        self.assertEqual(copy.passed(), ([2], [0]))
        self.assertEqual([copy.standing(row) for row in range(3)], [[], [1], []])
        self.assertEqual(copy.waiting(1), [0])
        self.assertEqual(copy.slack(1), 1)
        # A piece that precedes what is at the column goes to the front of its row.
        self.assertEqual(fill(copy, [(1, 1, 3)]), [3])
        self.assertEqual(copy.standing(1), [3, 1])
        self.assertEqual([copy.slack(3), copy.slack(1)], [0, 0])
        self.assertEqual(copy.beat(), [None, 3, None])
        self.assertEqual(copy.passed(), ([3], [1]))
        self.assertEqual(copy.waiting(1), [0, 1])
        self.assertEqual([copy.beat(), copy.beat(), copy.beat()], [[None, 0, None], [None, 1, None], [None] * 3])

    def test_put_into_the_row_by_what_is_at_the_column(self):
        copy = Copy(6)
        fill(copy, [(row, 0, 5) for row in range(6)])
        copy.beat()
        fill(copy, [(0, 1, 0), (1, 0, 5), (2, 0, 4), (3, 0, 5)])
        # At the column 0 is now one piece of rank 5, as 0 was sent.
        self.assertEqual(copy.waiting(0), [1])
        self.assertEqual(copy.standing(1), [7])
        self.assertEqual(copy.standing(2), [8, 2])
        self.assertEqual(copy.standing(3), [3, 9])
        self.assertEqual([copy.slack(number) for number in (7, 8, 2, 3, 9)], [1, 0, 0, 1, 0])

    def test_both_sets_handed_in(self):
        copy = Copy(2)
        fill(copy, [(0, 0, 0), (1, 0, 0)])
        self.assertEqual(copy.beat_with([0], [1]), [0, None])
        self.assertEqual((copy.passed(), copy.waiting(0), copy.beats()), (([0], [1]), [1], 1))
        self.assertEqual(copy.beat_with([], []), [1, None])
        self.assertEqual((copy.passed(), copy.beats()), (([], []), 2))

    def test_two_sets_that_fit(self):
        logs = []
        for first, second in (([2], [3]), ([3], [2])):
            copy = Copy(3)
            fill(copy, [(1, 0, 0), (2, 0, 0), (0, 0, 2)])
            self.assertEqual(copy.beat(), [0, None, None])
            copy.come(0, 0, 1)
            # The piece 2 is in front of the piece 3, which precedes it.
            self.assertEqual((copy.standing(0), copy.waiting(0)), ([2, 3], [1]))
            self.assertRaises(NotSteady, copy.beat_with, [], [])
            self.assertRaises(NotSteady, copy.beat_with, [2, 3], [])
            self.assertRaises(NotSteady, copy.beat_with, first, first)
            self.assertEqual(copy.beat_with(first, second), [1, None, None])
            self.assertEqual(copy.passed(), (first, second))
            self.assertEqual((copy.standing(0), copy.waiting(0)), ([], [3, 2]))
            self.assertEqual([copy.beat()[0] for _ in range(3)], [3, 2, None])
            logs.append(copy.log())
        self.assertNotEqual(logs[0], logs[1])

    def test_kinds(self):
        copy = Copy(2)
        self.assertIs(type(copy.come(0, 0, 0)), int)
        self.assertIs(type(copy.slack(0)), int)
        self.assertIs(type(copy.standing(0)), list)
        self.assertIs(type(copy.beat()), list)
        self.assertIs(type(copy.waiting(0)), list)
        self.assertEqual([type(part) for part in (copy.passed(), *copy.passed())], [tuple, list, list])
        self.assertIs(type(copy.beats()), int)
        self.assertIs(type(copy.log()), list)
        beat, = copy.log()
        self.assertEqual([type(part) for part in (beat, *beat)], [tuple, list, list, list])
        self.assertIs(type(beat[0][0]), tuple)
        self.assertIs(copy.back(0), None)


class Runs(unittest.TestCase):
    """Copies beside an ideal switch, whichever steady sets pass."""

    def sets_handed_in(self, rows, chance):
        """Two steady sets, each mostly the one that is best for the columns."""
        told = []
        for _ in range(2):
            for_rows, for_columns = best_rows(rows), best_columns(rows)
            sets = [for_columns] * 6 + [for_rows]
            sets += [upper(rows, for_rows, for_columns), lower(rows, for_rows, for_columns)]
            if sum(len(row) for row in rows) <= 9:
                sets += steady_sets(rows)
            told.append(chance.choice(sets))
            rows = without(rows, told[-1])
        return told

    def assert_slack(self, copy, n, pieces, least):
        """Each slack against counting; no one below the least."""
        for row in range(n):
            for place, number in enumerate(copy.standing(row)):
                _, column, rank = pieces[number]
                at_column = [(other,) + pieces[other][1:] for other in copy.waiting(column)]
                ahead = [other for other in at_column if precedes(other, (number, column, rank))]
                self.assertEqual(copy.slack(number), len(ahead) - place)
                self.assertGreaterEqual(copy.slack(number), least)

    def come_and_look(self, copy, n, piece, pieces):
        """Take a piece; it stands where the document puts it, and all others as they did."""
        row, column, rank = piece
        before = [copy.standing(line) for line in range(n)]
        number = copy.come(*piece)
        pieces.append(piece)
        at_column = [(other,) + pieces[other][1:] for other in copy.waiting(column)]
        ahead = [other for other in at_column if precedes(other, (number, column, rank))]
        place = min(len(ahead), len(before[row]))
        before[row] = before[row][:place] + [number] + before[row][place:]
        self.assertEqual([copy.standing(line) for line in range(n)], before)
        return number

    def run_beside_ideal(self, n, seed, beats, share, crowd, ranks):
        chance = random.Random(seed)
        ideal, own, handed = Ideal(n), Copy(n), Copy(n)
        pieces, again = [], []
        for beat in range(beats):
            for piece in coming(n, chance, share, crowd, ranks):
                number = ideal.come(*piece)
                self.assertEqual(self.come_and_look(own, n, piece, pieces), number)
                self.assertEqual(self.come_and_look(handed, n, piece, again), number)
            self.assert_slack(own, n, pieces, 0)
            self.assert_slack(handed, n, pieces, 0)
            before = rows_of(own, n, pieces)
            told = ideal.beat()
            self.assertEqual(own.beat(), told)
            first, second = own.passed()
            self.assertIs(is_steady(before, first), True)
            self.assertIs(is_steady(without(before, first), second), True)
            sets = self.sets_handed_in(rows_of(handed, n, pieces), chance)
            self.assertEqual(handed.beat_with(*sets), told)
            self.assertEqual(handed.passed(), tuple(sets))
            self.assert_slack(own, n, pieces, 1)
            self.assert_slack(handed, n, pieces, 1)
            self.assert_kept(own, n, ideal, pieces)
            self.assert_kept(handed, n, ideal, pieces)
            self.assertEqual((own.beats(), handed.beats()), (beat + 1, beat + 1))
        return sum(a != b for a, b in zip(own.log(), handed.log()))

    def assert_kept(self, copy, n, ideal, pieces):
        """Each piece that the ideal switch has is in the copy, in its row or at its column, in order."""
        standing = [number for row in range(n) for number in copy.standing(row)]
        for column in range(n):
            at_column = copy.waiting(column)
            in_rows = [number for number in standing if pieces[number][1] == column]
            self.assertEqual(sorted(at_column + in_rows), sorted(ideal.waiting(column)))
            self.assertEqual(at_column, [number for number in ideal.waiting(column) if number in at_column])

    def test_beside_an_ideal_switch(self):
        unlike = 0
        kinds = ((0.5, 1, 10), (0.8, 2, 3), (0.7, 3, 1), (1, 2, 10), (1, 4, 2), (1, 4, 3))
        for n in range(2, 7):
            for seed, (share, crowd, ranks) in enumerate(kinds):
                unlike += self.run_beside_ideal(n, 10 * n + seed, 25, share, crowd, ranks)
        self.assertGreater(unlike, 50)

    def test_crowds(self):
        for n in (2, 4, 6):
            self.run_beside_ideal(n, n, 40, 1, 4, 10)

    def test_hundreds_of_beats(self):
        for n in (2, 6):
            chance = random.Random(n)
            ideal, copy = Ideal(n), Copy(n)
            for _ in range(400):
                for piece in coming(n, chance, 0.9, 2):
                    self.assertEqual(ideal.come(*piece), copy.come(*piece))
                self.assertEqual(ideal.beat(), copy.beat())
            self.assertEqual(copy.beats(), 400)


class Refused(unittest.TestCase):
    def busy(self, n=3):
        """A copy with pieces in its rows and at its columns, some of them new."""
        copy = Copy(n)
        for beat in range(4):
            fill(copy, [(row, 0, (row + beat) % 3) for row in range(n)])
            if beat < 3:
                copy.beat()
        return copy

    def assert_refused(self, copy, n, refusal, ask, *things):
        before = state(copy, n)
        with self.assertRaises(refusal) as held:
            ask(*things)
        self.assertIs(type(held.exception), refusal)
        self.assertEqual(state(copy, n), before)
        return held.exception

    def test_lines_that_are_none(self):
        for n in range(2, 7):
            copy = Copy(n)
            copy.come(0, 0, 3)
            for wrong in (-1, -n, n, n + 1, FAR, -FAR):
                for right in (0, n - 1):
                    self.assertEqual(self.assert_refused(copy, n, NoLine, copy.come, wrong, right, 3).at, 0)
                    self.assertEqual(self.assert_refused(copy, n, NoLine, copy.come, right, wrong, 3).at, 1)
                for other in (-1, n, FAR, -FAR):
                    self.assertEqual(self.assert_refused(copy, n, NoLine, copy.come, wrong, other, 3).at, 0)
                self.assertEqual(self.assert_refused(copy, n, NoLine, copy.standing, wrong).at, 0)
                self.assertEqual(self.assert_refused(copy, n, NoLine, copy.waiting, wrong).at, 1)

    def test_a_second_piece_of_a_row(self):
        copy = self.busy()
        for row, column in itertools.product(range(3), range(3)):
            self.assert_refused(copy, 3, TooMany, copy.come, row, column, 0)
        copy.beat()
        self.assertEqual(copy.come(1, 1, 9), 12)
        self.assert_refused(copy, 3, TooMany, copy.come, 1, 2, 0)
        self.assert_refused(copy, 3, NoLine, copy.come, 2, 3, 0)
        self.assertEqual(copy.come(2, 2, 0), 13)

    def test_a_second_piece_behind_a_beat_with_sets(self):
        copy = Copy(2)
        copy.come(0, 0, 0)
        copy.beat_with([0], [])
        self.assertEqual(copy.come(0, 0, 0), 1)
        self.assert_refused(copy, 2, TooMany, copy.come, 0, 0, 0)
        self.assert_refused(copy, 2, NotSteady, copy.beat_with, [], [])
        # A refused beat is none.
        self.assert_refused(copy, 2, TooMany, copy.come, 0, 0, 0)

    def test_no_piece(self):
        copy = self.busy()
        standing = [number for row in range(3) for number in copy.standing(row)]
        at_columns = copy.waiting(0)
        sent = [number for number in range(12) if number not in standing + at_columns]
        self.assertEqual((len(sent), bool(standing), bool(at_columns)), (3, True, True))
        for wrong in sent + at_columns + [12, 13, -1, -12, FAR, -FAR, 10 ** 5000]:
            self.assertEqual(self.assert_refused(copy, 3, NoPiece, copy.slack, wrong).number, wrong)
        for number in standing:
            self.assertGreaterEqual(copy.slack(number), 0)

    def test_not_steady(self):
        copy = self.busy()
        rows = [[(number, 0, ((number % 3) + number // 3) % 3) for number in copy.standing(row)] for row in range(3)]
        first = best_rows(rows)
        second = best_rows(without(rows, first))
        self.assertTrue(first and second)
        every = [number for row in rows for piece in row for number in piece[:1]]
        wrong = [[], first + first, [number for number in every if number not in first], tuple(first), None, True, 0]
        wrong += [[99], [-1], [SIXTY_FIGURES], "", [tuple(first)], [None], [str(first[0])], second]
        for thing in wrong:
            self.assertEqual(self.assert_refused(copy, 3, NotSteady, copy.beat_with, thing, second).at, 0)
            self.assertEqual(self.assert_refused(copy, 3, NotSteady, copy.beat_with, thing, thing).at, 0)
        for thing in wrong[:-1] + [first]:
            self.assertEqual(self.assert_refused(copy, 3, NotSteady, copy.beat_with, first, thing).at, 1)
        self.assertEqual(copy.beat_with(first, second), Copy.beat(self.busy()))

    def test_truths_for_numbers(self):
        copy = Copy(2)
        fill(copy, [(0, 0, 0), (1, 1, 0)])
        for wrong in ([False, 1], [0, True], [False, True]):
            self.assertEqual(self.assert_refused(copy, 2, NotSteady, copy.beat_with, wrong, []).at, 0)
        self.assertEqual(copy.beat_with([0, 1], []), [0, 1])

    def test_anything_for_the_sets(self):
        copy = Copy(2)
        copy.come(0, 0, 0)
        for thing in odd_things() + deep_things():
            before = copies.deepcopy(thing)
            for first, second, at in ((thing, [], 0), ([thing], [], 0), ([0], thing, 1), ([0], [thing], 1)):
                # The number 0 and an empty list are right ones where a set of them is.
                if [first, second] != [[0], []] or bool in (type(first), type(second), type(thing)):
                    self.assertEqual(self.assert_refused(copy, 2, NotSteady, copy.beat_with, first, second).at, at)
            self.assertEqual(thing, before)
        self.assertEqual(copy.beat_with([0], []), [0, None])


class Own(unittest.TestCase):
    def test_told_lists_changed_behind_the_telling(self):
        copy = Copy(3)
        fill(copy, [(0, 0, 5), (1, 0, 5), (2, 0, 5)])
        sent = copy.beat()
        fill(copy, [(0, 0, 4), (1, 1, 5)])
        before = state(copy, 3)
        kept = state(copy, 3)
        sent.append(9)
        for told in [*before[0], *before[1], *before[4], before[5]]:
            told.append(77)
        for beat in before[5][:-1]:
            for part in beat:
                part.clear()
        self.assertEqual(state(copy, 3), kept)
        other = Copy(3)
        fill(other, [(0, 0, 5), (1, 0, 5), (2, 0, 5)])
        other.beat()
        fill(other, [(0, 0, 4), (1, 1, 5)])
        self.assertEqual([copy.beat() for _ in range(5)], [other.beat() for _ in range(5)])
        self.assertEqual(kept[5], copy.log()[:1])

    def test_no_two_told_lists_are_one(self):
        copy = Copy(2)
        for _ in range(2):
            self.assertIsNot(copy.passed()[0], copy.passed()[1])
            self.assertIsNot(copy.passed()[0], copy.passed()[0])
            for ask in (copy.standing, copy.waiting):
                self.assertIsNot(ask(0), ask(0))
                self.assertIsNot(ask(0), ask(1))
            self.assertIsNot(copy.log(), copy.log())
            copy.beat()
        one, other = copy.log(), copy.log()
        parts = [part for log in (one, other) for beat in log for part in beat]
        self.assertEqual(len({id(part) for part in parts}), 12)

    def test_sets_handed_in_are_not_kept(self):
        copy = Copy(2)
        fill(copy, [(0, 0, 0), (1, 0, 0)])
        first, second = [0], [1]
        copy.beat_with(first, second)
        first.append(5)
        second.clear()
        self.assertEqual(copy.passed(), ([0], [1]))
        self.assertEqual(copy.log(), [([(0, 0, 0), (1, 0, 0)], [0], [1])])
        one = []
        copy.beat_with(one, one)
        self.assertEqual(one, [])
        one.append(3)
        self.assertEqual(copy.passed(), ([], []))

    def test_two_copies_by_turns(self):
        one, other = Copy(2), Copy(2)
        self.assertEqual(one.come(0, 0, 0), 0)
        self.assertEqual(other.come(0, 1, 0), 0)
        self.assertRaises(TooMany, other.come, 0, 0, 0)
        self.assertEqual(one.beat(), [0, None])
        self.assertEqual((one.beats(), other.beats()), (1, 0))
        self.assertEqual((other.passed(), other.standing(0), other.log()), (([], []), [0], []))
        self.assertEqual(one.come(0, 0, 0), 1)
        other.back(0)
        self.assertEqual((one.standing(0), other.standing(0)), ([1], []))
        self.assertEqual(one.log(), [([(0, 0, 0)], [0], [])])


class Log(unittest.TestCase):
    def test_worked_out_by_hand(self):
        copy = Copy(2)
        self.assertEqual(copy.log(), [])
        fill(copy, [(1, 0, 7), (0, 0, 7)])
        # What came since the last beat is in no beat yet.
        self.assertEqual(copy.log(), [])
        copy.beat()
        self.assertEqual(copy.log(), [([(1, 0, 7), (0, 0, 7)], [0], [1])])
        copy.beat()
        copy.come(0, 1, 9)
        copy.beat_with([2], [])
        self.assertEqual(copy.log()[1:], [([], [], []), ([(0, 1, 9)], [2], [])])

    def test_refused_pieces_are_in_no_log(self):
        copy = Copy(2)
        copy.come(0, 0, 0)
        self.assertRaises(TooMany, copy.come, 0, 1, 0)
        self.assertRaises(NoLine, copy.come, 2, 1, 0)
        copy.beat()
        self.assertRaises(NotSteady, copy.beat_with, [0], [])
        self.assertEqual(copy.log(), [([(0, 0, 0)], [0], [])])


class Back(unittest.TestCase):
    def some_run(self, n, seed, beats):
        """A copy behind so many beats, some with handed sets, with its state behind each of them."""
        chance = random.Random(seed)
        copy = Copy(n)
        states = [state(copy, n)]
        pieces = []
        for _ in range(beats):
            for piece in coming(n, chance, 0.8, 2):
                copy.come(*piece)
                pieces.append(piece)
            rows = rows_of(copy, n, pieces)
            if chance.random() < 0.5:
                copy.beat()
            else:
                first = best_columns(rows)
                copy.beat_with(first, best_columns(without(rows, first)))
            states.append(state(copy, n))
        return copy, states

    def test_to_each_number_of_beats(self):
        for n in range(2, 7):
            for beats in (0, 1, 2, 5, 11, 12):
                copy, states = self.some_run(n, n, 12)
                came = sum(len(beat[0]) for beat in copy.log()[:beats])
                fill(copy, [(row, 0, 0) for row in range(n)])
                self.assertIs(copy.back(beats), None)
                self.assertEqual(state(copy, n), states[beats])
                # Each row can have a piece again, and numbers go on from there.
                self.assertEqual(fill(copy, [(row, 0, 0) for row in range(n)]), list(range(came, came + n)))

    def test_beats_behind_it_as_by_a_copy_that_never_went_further(self):
        for n in (2, 4, 6):
            for beats in (0, 3, 8):
                went, _ = self.some_run(n, 50 + n, 8)
                never, _ = self.some_run(n, 50 + n, beats)
                went.back(beats)
                chance = random.Random(n)
                for _ in range(10):
                    for piece in coming(n, chance, 0.9, 2):
                        self.assertEqual(went.come(*piece), never.come(*piece))
                    self.assertEqual(went.beat(), never.beat())
                    self.assertEqual(went.waiting(0), never.waiting(0))
                self.assertEqual(went.beats(), never.beats())

    def test_twice_in_a_row(self):
        copy, states = self.some_run(3, 7, 10)
        for beats in (10, 10, 6, 6, 2, 0, 0):
            copy.back(beats)
            self.assertEqual(state(copy, 3), states[beats])

    def test_to_where_it_is(self):
        copy = Copy(2)
        self.assertEqual(copy.come(0, 0, 0), 0)
        copy.back(0)
        self.assertEqual(state(copy, 2), state(Copy(2), 2))
        self.assertEqual(copy.come(0, 1, 0), 0)
        copy.beat()
        self.assertEqual(copy.come(0, 1, 0), 1)
        copy.back(1)
        self.assertEqual(copy.standing(0), [])
        self.assertEqual(copy.come(0, 1, 0), 1)
        self.assertEqual(copy.log(), [([(0, 1, 0)], [0], [])])

    def test_forgotten_pieces(self):
        copy = Copy(2)
        fill(copy, [(0, 0, 0), (1, 0, 0)])
        copy.beat()
        fill(copy, [(0, 0, 0), (1, 0, 0)])
        copy.beat()
        copy.back(1)
        self.assertEqual((copy.waiting(0), copy.standing(0), copy.standing(1)), ([1], [], []))
        for number in (0, 1, 2, 3):
            self.assertRaises(NoPiece, copy.slack, number)
        self.assertEqual(copy.beat(), [1, None])

    def test_beats_that_there_were_not(self):
        for beats in (0, 1, 5):
            copy, _ = self.some_run(3, beats, beats)
            copy.come(0, 0, 0)
            before = state(copy, 3)
            for wrong in (-1, -beats - 1, beats + 1, beats + 2, FAR, -FAR, 10 ** 5000):
                with self.assertRaises(NoBeat) as held:
                    copy.back(wrong)
                self.assertEqual(held.exception.number, wrong)
                self.assertEqual(state(copy, 3), before)
            # The piece that came is still there.
            self.assertRaises(TooMany, copy.come, 0, 0, 0)

    def test_told_lists_stay(self):
        copy, _ = self.some_run(3, 9, 6)
        log, passed = copy.log(), copy.passed()
        kept = copies.deepcopy(log), copies.deepcopy(passed)
        copy.back(2)
        copy.beat()
        self.assertEqual((log, passed), kept)
        log.clear()
        self.assertEqual(copy.beats(), 3)


if __name__ == "__main__":
    unittest.main()
