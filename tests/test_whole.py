"""What the document promises over the whole program: points 1, 2 and 3, of all parts together."""

import itertools
import random
import unittest

from beatswitch.clearing import behind, cleared, latest
from beatswitch.copying import Copy
from beatswitch.covers import greatest
from beatswitch.desk import Desk
from beatswitch.errors import NoLine, SwitchError, TooMany
from beatswitch.frames import Frame
from beatswitch.halls import Hall
from beatswitch.heaviest import heaviest, is_heaviest
from beatswitch.ideal import Ideal
from beatswitch.keeping import Keeper
from beatswitch.logs import is_log, sent
from beatswitch.measured import measured
from beatswitch.middles import is_laid, laid
from beatswitch.pairings import is_full, is_pairing, is_within
from beatswitch.parting import is_parted, parted
from beatswitch.plans import is_plan, needs_two, plan
from beatswitch.steady import best_columns, best_rows, is_steady
from beatswitch.tables import greatest_line, is_table
from beatswitch.texts import read, shown
from beatswitch.waves import wave
from models import some_history
from samples import GREATEST, all_pairings, some_tables, square


def wishes(table):
    return [(i, j) for i, row in enumerate(table) for j, count in enumerate(row) if count]


def column_of(history, number):
    return [column for pieces in history for _, column, _ in pieces][number]


def row_of(history, number):
    return [row for pieces in history for row, _, _ in pieces][number]


class OneOfEachLine(unittest.TestCase):
    """At each beat a pairing goes through."""

    def assert_one_of_each_line(self, cells):
        for side in (0, 1):
            lines = [cell[side] for cell in cells]
            self.assertEqual(len(set(lines)), len(lines))

    def test_tables(self):
        for table in some_tables(4, 3):
            n = len(table)
            told = [greatest(table)[0], heaviest(table)[0], wave(table, 7), *cleared(table, 3)]
            told += [pairing for pairing, _ in parted(table)]
            for pairing in told:
                self.assertIs(is_pairing(n, pairing), True)
                self.assertIs(is_within(table, pairing), True)

    def test_keepers_and_frames(self):
        for table in some_tables(3, 2):
            if not wishes(table):
                continue
            keeper, frame = Keeper(len(table)), Frame(table)
            cells = [cell for cell in wishes(table) for _ in range(table[cell[0]][cell[1]])]
            for cell in cells:
                self.assertEqual(keeper.come(*cell), frame.come(*cell))
            for _ in range(greatest_line(table)[0]):
                self.assert_one_of_each_line([cells[number] for number, _ in keeper.beat()])
                self.assert_one_of_each_line([cells[number] for number in frame.beat()])

    def test_copies(self):
        for n in range(2, 7):
            history = some_history(n, 20, n, 0.9, 3)
            copy = Copy(n)
            for pieces in history:
                for piece in pieces:
                    copy.come(*piece)
                told = copy.beat()
                self.assertEqual(len(told), n)
                for column, number in enumerate(told):
                    self.assertTrue(number is None or column_of(history, number) == column)
                for numbers in copy.passed():
                    cells = [(row_of(history, number), column_of(history, number)) for number in numbers]
                    self.assert_one_of_each_line(cells)


class ThePromise(unittest.TestCase):
    def test_as_many_lines_meet_all_wishes(self):
        for table in some_tables(2, 6) + some_tables(GREATEST, 2):
            pairing, lines = greatest(table)
            self.assertEqual(len([column for column in pairing if column is not None]), len(lines))
            self.assertTrue(all((0, i) in lines or (1, j) in lines for i, j in wishes(table)))

    def test_parted_in_as_many_beats_as_the_greatest_line_has(self):
        for table in some_tables(2, 4) + some_tables(GREATEST, 4):
            told = parted(table)
            self.assertEqual(sum(beats for _, beats in told), greatest_line(table)[0])
            self.assertLessEqual(len(told), 2 * len(table) * (len(table) + 1))
            self.assertIs(is_parted(table, told), True)

    def test_each_wish_within_as_many_beats_as_lines(self):
        for table in some_tables(3, 3):
            for beat in (0, 5, 10 ** 58):
                taken = {(i, j) for pairing in cleared(table, beat)[:len(table)] for i, j in enumerate(pairing)}
                self.assertLessEqual(set(wishes(table)), taken)

    def test_whatever_full_pairings_are_taken(self):
        for table in some_tables(3, 2):
            chance = random.Random(1)
            rest, taken = table, []
            while wishes(rest):
                if len(table) < 5:
                    choice = chance.choice([p for p in all_pairings(len(table)) if is_full(rest, p)])
                else:
                    choice = wave(rest, chance.randrange(10 ** 9))
                taken.append(choice)
                rest = behind(table, taken)
                for i, j in wishes(rest):
                    self.assertLess(len(taken), latest(table, i, j))
            if taken:
                self.assertLess(len(taken), 2 * greatest_line(table)[0])

    def test_a_piece_kept_waits_less_than_so_many_times_its_turn(self):
        for n in range(2, 7):
            chance = random.Random(n)
            keeper, turns = Keeper(n), {}
            for _ in range(150):
                for _ in range(chance.randrange(n + 1)):
                    cell = chance.randrange(n), min(chance.randrange(n), chance.randrange(n))
                    number = keeper.come(*cell)
                    turns[number] = len(keeper.waiting(*cell))
                for number, waited in keeper.beat():
                    self.assertLess(waited, n * turns[number])

    def test_a_frame_leaves_none_longer_than_to_the_end_of_the_next_round(self):
        for table in some_tables(3, 1):
            if not wishes(table):
                continue
            frame, cells = Frame(table), wishes(table)
            beats = greatest_line(table)[0]
            came = {}
            for beat in range(4 * beats):
                for i, j in cells:
                    if (beat * (i + 1) + j) % 3 == 0:
                        try:
                            came[frame.come(i, j)] = beat // beats
                        except TooMany:
                            pass
                for number in frame.beat():
                    self.assertLessEqual(beat // beats, came.pop(number) + 1)
                self.assertTrue(all(beat < (start + 2) * beats for start in came.values()))

    def test_calls_laid_wherever_there_are_middles(self):
        for size, middles in itertools.product((2, 3, 5), (1, 3, 8)):
            chance = random.Random(size * middles)
            orders = [chance.sample(range(size), size) for _ in range(middles)]
            calls = [call for order in orders for call in enumerate(order)]
            chance.shuffle(calls)
            told = laid(size, middles, calls)
            self.assertIs(is_laid(size, middles, calls, told), True)
            self.assertRaises(TooMany, laid, size, middles, calls + [(0, 0)])
            hall = Hall(size, middles, middles)
            for call in calls:
                hall.call(*call)
            self.assertEqual(len(hall.calls()), len(calls))

    def test_never_moved_with_twice_as_many_less_one(self):
        for lines in range(1, 5):
            chance = random.Random(lines)
            hall = Hall(4, lines, 2 * lines - 1)
            for _ in range(200):
                try:
                    self.assertEqual(hall.call(chance.randrange(4), chance.randrange(4))[2], [])
                except TooMany:
                    hall.end(chance.choice(hall.calls())[0])


class Together(unittest.TestCase):
    """Parts of the program that must tell the same."""

    def test_texts_tables_and_desks(self):
        desk = Desk()
        for table in some_tables(2, 2):
            if sum(sum(row) for row in table) > 60:
                continue
            self.assertIs(is_table(table), True)
            self.assertEqual(desk.say(f"table {shown(table)}"), "ok")
            self.assertEqual(read(desk.say("show")), table)
            self.assertEqual(int(desk.say("parted")), sum(beats for _, beats in parted(table)))
            self.assertEqual(int(desk.say("greatest")), len(greatest(table)[1]))

    def test_weights_of_0_and_1_are_greatest_pairings(self):
        for table in some_tables(1, 6):
            told = heaviest(table)
            self.assertIs(is_heaviest(table, told), True)
            self.assertEqual(sum(told[1]) + sum(told[2]), len(greatest(table)[1]))

    def test_copies_logs_plans_and_measures(self):
        for n in range(2, 7):
            for crowd in (1, 3):
                history = some_history(n, 40, n, 0.7, crowd)
                ideal, copy = Ideal(n), Copy(n)
                told = []
                for pieces in history:
                    for piece in pieces:
                        self.assertEqual(ideal.come(*piece), copy.come(*piece))
                    told.append(ideal.beat())
                    self.assertEqual(copy.beat(), told[-1])
                self.assertIs(is_log(n, copy.log()), True)
                self.assertEqual(sent(n, copy.log()), told)
                self.assert_planned(n, history)
                self.assert_measured(n, history, told)

    def assert_planned(self, n, history):
        load, beats = plan(n, history)
        self.assertIs(is_plan(n, history, (load, beats)), True)
        self.assertEqual(load, 1 if needs_two(n, history) is None else 2)
        # So many pairings at each beat are enough: calls of rows and columns over so many middles.
        for beat in set(beats):
            calls = [(row_of(history, k), column_of(history, k)) for k, b in enumerate(beats) if b == beat]
            self.assertIs(is_laid(n, load, calls, laid(n, load, calls)), True)

    def assert_measured(self, n, history, told):
        many = [0] * n
        for (counts, _), numbers in zip(measured(n, history, len(told)), told):
            many = [count + (number is not None) for count, number in zip(many, numbers)]
            self.assertEqual(counts, many)

    def test_steady_sets_of_tables(self):
        for table in some_tables(9, 2):
            # Each row wants its columns in their order, and each column the greatest counts.
            rows = [[] for _ in table]
            for number, (i, j) in enumerate(wishes(table)):
                rows[i].append((number, j, 9 - table[i][j]))
            for chosen in (best_rows(rows), best_columns(rows)):
                self.assertIs(is_steady(rows, chosen), True)
                cells = [wishes(table)[number] for number in chosen]
                pairing = tuple(dict(cells).get(i) for i in range(len(table)))
                # A wish that could be put to it would not be outdone.
                self.assertIs(is_full(table, pairing), True)


class WhatIsRefused(unittest.TestCase):
    def test_each_refusal_is_one_of_the_program(self):
        asks = [
            (Keeper(2).come, 2, 0), (Frame(square(2, 1)).come, 0, 2), (Hall(2, 1, 1).call, 2, 0),
            (Ideal(2).come, 2, 0, 0), (Copy(2).come, 0, 2, 0), (Copy(2).back, 1), (Copy(2).slack, 0), (Copy(2).beat_with, None, None),
            (Ideal(2).due, 0), (Hall(2, 1, 1).end, 0), (Desk().say, ""), (Desk().say, "table 0"), (read, ""),
            (behind, square(2), [None]), (laid, 2, 1, [(0, 0), (0, 1)])]
        for ask, *things in asks:
            with self.assertRaises(SwitchError) as held:
                ask(*things)
            self.assertEqual(type(held.exception).__bases__, (SwitchError,))

    def test_the_side_of_a_line(self):
        for ask, things, at in ((Keeper(3).waiting, (3, 3), 0), (Keeper(3).waiting, (2, 3), 1),
                                (Ideal(3).waiting, (3,), 1), (Copy(3).waiting, (3,), 1), (Copy(3).standing, (3,), 0)):
            with self.assertRaises(NoLine) as held:
                ask(*things)
            self.assertEqual(held.exception.at, at)


if __name__ == "__main__":
    unittest.main()
