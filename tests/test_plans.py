import copy as copies
import itertools
import unittest

from beatswitch.plans import is_plan, needs_two, plan
from models import pieces_of, sent_by_ideal, some_history
from samples import SIXTY_FIGURES, deep_things, odd_things

# The history that the document names, and others that need 2.
TWO = [[(0, 0, 0), (1, 0, 0)], [(1, 1, 0)]]
ONE = [[(0, 0, 0), (1, 1, 0)], [(0, 1, 0)]]
LATER = [[], [(0, 0, 0), (1, 0, 1)], [], [(1, 1, 0), (2, 1, 0)], [(2, 0, 5)]]


def spans(n, history):
    """Of each piece the first and the last beat that it may have, told by an ideal switch."""
    beats = sent_by_ideal(n, history, len(history) + 60)
    sent = {number: beat for beat, told in enumerate(beats) for number in told if number is not None}
    firsts = [beat for beat, pieces in enumerate(history) for _ in pieces]
    return [(first, sent[number]) for number, first in enumerate(firsts)]


def load_of(history, beats):
    used = {}
    for (row, column, _), beat in zip(pieces_of(history), beats):
        for place in (("row", row, beat), ("column", column, beat)):
            used[place] = used.get(place, 0) + 1
    return max(used.values(), default=0)


def all_plans(n, history):
    return itertools.product(*[range(first, last + 1) for first, last in spans(n, history)])


def clashes(n, history):
    """Each (beat, number, number) of two pieces of one row that an ideal switch sends at that beat."""
    pieces = pieces_of(history)
    told = []
    for beat, sent in enumerate(sent_by_ideal(n, history, len(history) + 60)):
        numbers = [number for number in sent if number is not None]
        for one, other in itertools.combinations(sorted(numbers), 2):
            if pieces[one][0] == pieces[other][0]:
                told.append((beat, one, other))
    return told


def small_histories():
    """Histories with so few plans that all can be tried out."""
    told = []
    for n in (2, 3, 4):
        for seed in range(40):
            history = some_history(n, 1 + seed % 4, 10 * seed + n, 0.8, 1 + seed % 3, 1 + seed % 4)
            if len(list(itertools.islice(all_plans(n, history), 1001))) <= 1000:
                told.append((n, history))
    return told


def great_histories():
    """Histories of sixty pieces, many of them for one column, and of sixty beats."""
    told = []
    for n in range(2, 7):
        for crowd in (1, 2, 5):
            told.append((n, some_history(n, 60, n, 1, crowd)))
            told.append((n, some_history(n, 60, n, 0.2, crowd, 1)))
    told.append((6, [[(k % 6, 0, 9 - k % 10)] for k in range(60)]))
    told.append((6, [[(row, 0, row) for row in range(6)] for _ in range(10)] + [[]] * 50))
    told.append((6, [[]] * 50 + [[(row, 0, 0) for row in range(6)] for _ in range(10)]))
    return told


class Plan(unittest.TestCase):
    def assert_right(self, n, history):
        before = copies.deepcopy(history)
        told = plan(n, history)
        self.assertEqual([type(part) for part in (told, *told)], [tuple, int, list])
        load, beats = told
        self.assertEqual(len(beats), len(pieces_of(history)))
        for beat, (first, last) in zip(beats, spans(n, history)):
            self.assertIs(type(beat), int)
            self.assertTrue(first <= beat <= last)
        self.assertEqual(load, load_of(history, beats))
        self.assertIs(is_plan(n, history, told), True)
        self.assertEqual(history, before)
        return told

    def test_without_pieces(self):
        for n in range(2, 7):
            for history in ([], [[]], [[], []], [[]] * 60):
                self.assertEqual(plan(n, history), (0, []))
                self.assertIs(needs_two(n, history), None)
                self.assertIs(is_plan(n, history, (0, [])), True)

    def test_worked_out_by_hand(self):
        # The ideal switch sends 0, then 1 and 2 of one row: 1 or 2 cannot go ahead of another beat.
        self.assertEqual(needs_two(2, TWO), (1, 1, 2))
        self.assertIn(self.assert_right(2, TWO), [(2, [0, 0, 1]), (2, [0, 1, 1])])
        self.assertIs(needs_two(2, ONE), None)
        self.assertEqual(plan(2, ONE), (1, [0, 0, 1]))
        # At beat 4 it sends 3, which 2 preceded at beat 3, and 4, both of the row 2.
        self.assertEqual(needs_two(3, LATER), (4, 3, 4))
        told = [[1, other, 3, last, 4] for other in (1, 2) for last in (3, 4)]
        self.assertIn(self.assert_right(3, LATER), [(2, beats) for beats in told])

    def test_small_histories(self):
        loads = []
        for n, history in small_histories():
            load, _ = self.assert_right(n, history)
            self.assertEqual(load, min(load_of(history, beats) for beats in all_plans(n, history)))
            loads.append(load)
        self.assertEqual(set(loads), {0, 1, 2})

    def test_load_one_has_one_plan_alone(self):
        for n, history in small_histories():
            right = [beats for beats in all_plans(n, history) if load_of(history, beats) == 1]
            if right:
                self.assertEqual(right, [tuple(last for _, last in spans(n, history))])
                self.assertEqual(plan(n, history), (1, list(right[0])))

    def test_great_histories(self):
        for n, history in great_histories():
            self.assertLessEqual(len(pieces_of(history)), 60)
            load, _ = self.assert_right(n, history)
            self.assertEqual(load, 2 if clashes(n, history) else 1)

    def test_told_lists_are_the_askers_own(self):
        for history in (TWO, ONE, [], LATER):
            told = plan(3, history)
            before = copies.deepcopy(told)
            told[1].append(5)
            self.assertEqual(plan(3, history), before)


class NeedsTwo(unittest.TestCase):
    def test_against_looking_at_all_beats(self):
        some = 0
        for n, history in small_histories() + great_histories():
            found = clashes(n, history)
            self.assertEqual(needs_two(n, history), min(found) if found else None)
            some += len(found) > 1
        self.assertGreater(some, 5)

    def test_the_least(self):
        # At beat 1 the ideal switch sends 1 and 3 of the row 1, and 2 and 4 of the row 2 at beat 2.
        history = [[(0, 0, 0), (1, 0, 1), (2, 0, 2)], [(1, 1, 0)], [(2, 1, 0)]]
        self.assertEqual(clashes(3, history), [(1, 1, 3), (2, 2, 4)])
        self.assertEqual(needs_two(3, history), (1, 1, 3))
        told = needs_two(3, history)
        self.assertEqual([type(part) for part in (told, *told)], [tuple, int, int, int])

    def test_several_of_one_row_at_one_beat(self):
        # Of the row 3 the pieces 2, 4 and 5 wait for three columns till beat 2.
        history = [[(0, 0, 0), (1, 0, 0), (3, 0, 1)], [(0, 1, 0), (3, 1, 1)], [(3, 2, 0)]]
        self.assertEqual(clashes(4, history), [(2, 2, 4), (2, 2, 5), (2, 4, 5)])
        self.assertEqual(needs_two(4, history), (2, 2, 4))

    def test_a_row_at_unlike_beats(self):
        self.assertIs(needs_two(2, [[(0, 0, 0)], [(0, 1, 0)], [(0, 0, 0)]]), None)
        self.assertIs(needs_two(2, [[(0, 0, 0), (1, 1, 0)]]), None)


class IsPlan(unittest.TestCase):
    def assert_wrong(self, n, history, told):
        self.assertIs(is_plan(n, history, told), False, repr((history, told))[:300])

    def test_all_plans_of_small_histories(self):
        for n, history in small_histories():
            least = min(load_of(history, beats) for beats in all_plans(n, history))
            for beats in all_plans(n, history):
                right = load_of(history, beats) == least
                self.assertIs(is_plan(n, history, (least, list(beats))), right)
                if not right:
                    self.assert_wrong(n, history, (load_of(history, beats), list(beats)))

    def test_a_load_more_or_less(self):
        for n, history in small_histories() + great_histories()[:6] + [(2, [])]:
            load, beats = plan(n, history)
            for wrong in (load - 1, load + 1, 3 - load, -load - 1, SIXTY_FIGURES, -SIXTY_FIGURES):
                if wrong != load:
                    self.assert_wrong(n, history, (wrong, beats))

    def test_a_beat_too_early_or_too_late(self):
        for n, history in small_histories() + great_histories()[::4]:
            load, beats = plan(n, history)
            for at, (first, last) in enumerate(spans(n, history)):
                for wrong in (first - 1, last + 1, -1, last + 60, SIXTY_FIGURES, -SIXTY_FIGURES):
                    if wrong < first or wrong > last:
                        self.assert_wrong(n, history, (load, beats[:at] + [wrong] + beats[at + 1:]))

    def test_a_beat_left_out_and_one_more(self):
        for n, history in small_histories() + [(2, []), (3, [[]])]:
            load, beats = plan(n, history)
            for at in range(len(beats)):
                self.assert_wrong(n, history, (load, beats[:at] + beats[at + 1:]))
            for more in (0, 1, 59):
                self.assert_wrong(n, history, (load, beats + [more]))

    def test_truths(self):
        self.assertIs(is_plan(2, ONE, (1, [0, 0, 1])), True)
        for wrong in ((True, [0, 0, 1]), (1, [False, 0, 1]), (1, [0, False, 1]), (1, [0, 0, True])):
            self.assert_wrong(2, ONE, wrong)
        self.assert_wrong(2, [], (False, []))
        self.assert_wrong(2, [[]], (None, []))

    def test_other_kinds(self):
        for n, history in small_histories()[::5] + [(2, []), (2, ONE), (2, TWO)]:
            load, beats = plan(n, history)
            self.assert_wrong(n, history, [load, beats])
            self.assert_wrong(n, history, (load, tuple(beats)))
            self.assert_wrong(n, history, (beats, load))
            self.assert_wrong(n, history, (str(load), beats))
            self.assert_wrong(n, history, (load, [beats]))
            for wrong in ((), (load,), (load, beats, beats), (load, beats, None), beats, load):
                self.assert_wrong(n, history, wrong)

    def test_anything(self):
        for history, load, beats in ((ONE, 1, [0, 0, 1]), ([], 0, []), (TWO, 2, [0, 1, 1])):
            for thing in odd_things() + deep_things():
                before = copies.deepcopy(thing)
                told = [(thing, thing), thing, (load, [thing] * len(beats) or [thing]), (thing, [thing])]
                if thing != beats:
                    told.append((load, thing))
                if thing != load or type(thing) is bool:
                    told.append((thing, beats))
                for wrong in told:
                    self.assert_wrong(2, history, wrong)
                self.assertEqual(thing, before)

    def test_ten_thousand_beats(self):
        self.assert_wrong(2, ONE, (1, [0] * 9000))
        self.assert_wrong(2, [], (0, [0] * 9000))


if __name__ == "__main__":
    unittest.main()
