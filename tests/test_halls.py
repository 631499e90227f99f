import itertools
import random
import unittest

from beatswitch.errors import NoCall, NoLine, TooMany
from beatswitch.halls import Hall

FAR = 10 ** 59


class Model:
    """A hall by the words of the document: of each call a list [front, behind, middle]."""

    def __init__(self, middles):
        self.middles = middles
        self.came = 0
        self.laid = {}

    def over(self, side, line, middle):
        """The call of a front (side 0) or a behind (side 1) over a middle, None if it is free."""
        for number, call in self.laid.items():
            if call[side] == line and call[2] == middle:
                return number
        return None

    def call(self, front, behind):
        at_front = [m for m in range(self.middles) if self.over(0, front, m) is None]
        at_behind = [m for m in range(self.middles) if self.over(1, behind, m) is None]
        moves = []
        both = [m for m in at_front if m in at_behind]
        middle = both[0] if both else at_front[0]
        if not both:
            p, q = at_front[0], at_behind[0]
            number = self.over(1, behind, p)
            while number is not None:
                moves.append((number, (p, q)[len(moves) % 2], (q, p)[len(moves) % 2]))
                side = len(moves) % 2
                side = 1 - side
                number = self.over(side, self.laid[number][side], (p, q)[len(moves) % 2])
            for number, _, there in moves:
                self.laid[number][2] = there
        self.laid[self.came] = [front, behind, middle]
        self.came += 1
        return self.came - 1, middle, moves

    def calls(self):
        return [(number, *self.laid[number]) for number in sorted(self.laid)]


def halls():
    """All sizes, lines and middles that a hall may have."""
    for size, lines in itertools.product(range(2, 6), range(1, 5)):
        for middles in range(lines, 9):
            yield size, lines, middles


def called(hall, pairs):
    return [hall.call(front, behind) for front, behind in pairs]


class ByHand(unittest.TestCase):
    def test_a_middle_free_at_both(self):
        hall = Hall(3, 2, 3)
        self.assertEqual(hall.call(0, 0), (0, 0, []))
        self.assertEqual(hall.call(0, 1), (1, 1, []))
        self.assertEqual(hall.call(1, 1), (2, 0, []))
        self.assertEqual(hall.call(2, 0), (3, 1, []))
        # Free at the front 1 are 1 and 2, at the behind 2 all three.
        self.assertEqual(hall.call(1, 2), (4, 1, []))
        self.assertEqual(hall.calls(), [(0, 0, 0, 0), (1, 0, 1, 1), (2, 1, 1, 0), (3, 2, 0, 1), (4, 1, 2, 1)])

    def test_one_line_and_one_middle(self):
        hall = Hall(2, 1, 1)
        self.assertEqual(hall.calls(), [])
        self.assertEqual(hall.call(0, 1), (0, 0, []))
        self.assertEqual(hall.call(1, 0), (1, 0, []))
        self.assertRaises(TooMany, hall.call, 0, 0)
        self.assertIs(hall.end(0), None)
        self.assertEqual(hall.calls(), [(1, 1, 0, 0)])
        self.assertEqual(hall.call(0, 1), (2, 0, []))

    def test_a_chain_of_one_call(self):
        hall = Hall(3, 2, 2)
        self.assertEqual(called(hall, [(0, 1), (1, 2), (1, 0)]), [(0, 0, []), (1, 0, []), (2, 1, [])])
        hall.end(1)
        # Free are 1 at the front 0 and 0 at the behind 0; the front 1 has nothing over 0.
        self.assertEqual(hall.call(0, 0), (3, 1, [(2, 1, 0)]))
        self.assertEqual(hall.calls(), [(0, 0, 1, 0), (2, 1, 0, 0), (3, 0, 0, 1)])

    def test_a_chain_of_two_calls(self):
        hall = Hall(3, 2, 2)
        called(hall, [(0, 1), (1, 2), (1, 0)])
        self.assertEqual(hall.call(0, 0), (3, 1, [(2, 1, 0), (1, 0, 1)]))
        self.assertEqual(hall.calls(), [(0, 0, 1, 0), (1, 1, 2, 1), (2, 1, 0, 0), (3, 0, 0, 1)])

    def test_a_chain_of_three_calls(self):
        hall = Hall(3, 2, 2)
        called(hall, [(0, 1), (1, 2), (1, 0)])
        self.assertEqual(hall.call(2, 2), (3, 1, []))
        self.assertEqual(hall.call(0, 0), (4, 1, [(2, 1, 0), (1, 0, 1), (3, 1, 0)]))
        self.assertEqual(
            hall.calls(), [(0, 0, 1, 0), (1, 1, 2, 1), (2, 1, 0, 0), (3, 2, 2, 0), (4, 0, 0, 1)])

    def test_a_chain_of_four_calls(self):
        hall = Hall(4, 2, 2)
        called(hall, [(0, 1), (1, 2), (1, 0), (2, 3)])
        self.assertEqual(hall.call(2, 2), (4, 1, []))
        self.assertEqual(hall.call(0, 0), (5, 1, [(2, 1, 0), (1, 0, 1), (4, 1, 0), (3, 0, 1)]))
        self.assertEqual([call[3] for call in hall.calls()], [0, 1, 0, 1, 0, 1])

    def test_one_more_middle_free_at_both(self):
        hall = Hall(3, 3, 3)
        called(hall, [(0, 1), (0, 2), (1, 1), (1, 0), (2, 0)])
        before = hall.calls()
        self.assertEqual([call[3] for call in before], [0, 1, 1, 0, 1])
        # Free at the front 0 is 2 alone, and at the behind 0, too.
        self.assertEqual(hall.call(0, 0), (5, 2, []))
        hall.end(5)
        self.assertEqual(hall.calls(), before)

    def test_the_least_of_several_free_ones(self):
        hall = Hall(4, 3, 4)
        self.assertEqual(called(hall, [(0, 1)] * 3), [(0, 0, []), (1, 1, []), (2, 2, [])])
        called(hall, [(1, 0)] * 3)
        hall.end(1)
        hall.end(4)
        self.assertEqual(hall.call(0, 0), (6, 1, []))

    def test_the_least_free_ones_of_the_chain(self):
        hall = Hall(5, 3, 3)
        called(hall, [(0, 1), (1, 0), (1, 0), (1, 0)])
        hall.end(1)
        # Free at the front 0 are 1 and 2, at the behind 0 only 0; the call 3 over 2 stays there.
        self.assertEqual(hall.call(0, 0), (4, 1, [(2, 1, 0)]))
        self.assertEqual(hall.calls(), [(0, 0, 1, 0), (2, 1, 0, 0), (3, 1, 0, 2), (4, 0, 0, 1)])

    def test_several_free_ones_at_the_behind(self):
        hall = Hall(5, 3, 3)
        called(hall, [(0, 1), (0, 1), (0, 1), (1, 2), (1, 2), (1, 0)])
        hall.end(2)
        # Free at the front 0 is 2, at the behind 0 are 0 and 1; the front 1 has (1, 2) over 0.
        self.assertEqual(hall.call(0, 0), (6, 2, [(5, 2, 0), (3, 0, 2)]))

    def test_ended_calls_are_no_part_of_a_chain(self):
        hall = Hall(3, 2, 2)
        called(hall, [(0, 1), (1, 2), (1, 0)])
        hall.end(2)
        self.assertEqual(hall.call(0, 0), (3, 1, []))


class Refused(unittest.TestCase):
    def assert_no_line(self, hall, front, behind, at):
        before = hall.calls()
        with self.assertRaises(NoLine) as held:
            hall.call(front, behind)
        self.assertEqual(held.exception.at, at)
        self.assertEqual(hall.calls(), before)

    def assert_too_many(self, hall, front, behind):
        before = hall.calls()
        self.assertRaises(TooMany, hall.call, front, behind)
        self.assertEqual(hall.calls(), before)

    def assert_no_call(self, hall, number):
        before = hall.calls()
        with self.assertRaises(NoCall) as held:
            hall.end(number)
        self.assertEqual(held.exception.number, number)
        self.assertEqual(hall.calls(), before)

    def test_lines_that_are_none(self):
        for size in range(2, 6):
            hall = Hall(size, 1, 1)
            for _ in range(2):
                for wrong in (-1, -size, size, size + 1, FAR, -FAR):
                    for right in (0, size - 1):
                        self.assert_no_line(hall, wrong, right, 0)
                        self.assert_no_line(hall, right, wrong, 1)
                    for other in (-1, size, FAR, -FAR):
                        self.assert_no_line(hall, wrong, other, 0)
                # Behind this call the front 0 and the last behind have no room either.
                if not hall.calls():
                    hall.call(0, size - 1)

    def test_too_many_by_the_front_alone(self):
        for size, lines, middles in halls():
            hall = Hall(size, lines, middles)
            for k in range(lines):
                hall.call(size - 1, k % (size - 1))
            self.assert_too_many(hall, size - 1, size - 1)
            self.assertEqual(hall.call(0, size - 1)[0], lines)

    def test_too_many_by_the_behind_alone(self):
        for size, lines, middles in halls():
            hall = Hall(size, lines, middles)
            for k in range(lines):
                hall.call(k % (size - 1), size - 1)
            self.assert_too_many(hall, size - 1, size - 1)
            self.assertEqual(hall.call(size - 1, 0)[0], lines)

    def test_too_many_by_both(self):
        for size, lines, middles in halls():
            hall = Hall(size, lines, middles)
            called(hall, [(0, 0)] * lines)
            self.assert_too_many(hall, 0, 0)
            hall.end(0)
            self.assertEqual(hall.call(0, 0), (lines, 0, []))
            self.assert_too_many(hall, 0, 0)

    def test_calls_that_there_are_not(self):
        hall = Hall(2, 2, 3)
        for number in (0, 1, -1, FAR, -FAR):
            self.assert_no_call(hall, number)
        called(hall, [(0, 0), (0, 1), (1, 0)])
        for number in (3, -1, -3, FAR, -FAR):
            self.assert_no_call(hall, number)
        hall.end(1)
        self.assert_no_call(hall, 1)
        self.assertEqual(hall.calls(), [(0, 0, 0, 0), (2, 1, 0, 1)])
        hall.end(0)
        self.assert_no_call(hall, 0)

    def test_numbers_go_on_behind_ends_and_refusals(self):
        hall = Hall(2, 1, 1)
        self.assertEqual(hall.call(1, 1), (0, 0, []))
        self.assert_too_many(hall, 1, 0)
        self.assert_no_line(hall, 2, 0, 0)
        self.assert_no_call(hall, 1)
        self.assertEqual(hall.call(0, 0), (1, 0, []))
        hall.end(0)
        hall.end(1)
        self.assertEqual(hall.calls(), [])
        self.assertEqual(hall.call(1, 0), (2, 0, []))

    def test_somewhat_beyond_the_limits(self):
        hall = Hall(3, 3, 2)
        self.assertEqual(called(hall, [(0, 0), (0, 0)]), [(0, 0, []), (1, 1, [])])
        self.assert_too_many(hall, 0, 1)
        self.assert_too_many(hall, 1, 0)
        self.assertEqual(Hall(7, 1, 1).call(6, 6), (0, 0, []))


class Own(unittest.TestCase):
    def test_told_lists_changed_behind_the_telling(self):
        hall = Hall(3, 2, 2)
        called(hall, [(0, 1), (1, 2), (1, 0)])
        told = hall.calls()
        _, _, moves = hall.call(0, 0)
        after = hall.calls()
        self.assertEqual([call[3] for call in told], [0, 0, 1])
        moves.clear()
        told.clear()
        hall.calls().append(None)
        self.assertEqual(hall.calls(), after)
        self.assertIsNot(hall.calls(), hall.calls())

    def test_no_two_lists_of_moves_are_one(self):
        hall = Hall(3, 2, 2)
        one = hall.call(0, 0)[2]
        one.append((9, 9, 9))
        self.assertEqual(hall.call(1, 1), (1, 0, []))
        self.assertEqual(Hall(2, 1, 1).call(0, 0), (0, 0, []))

    def test_two_halls_by_turns(self):
        one, other = Hall(3, 2, 2), Hall(3, 2, 2)
        called(one, [(0, 1), (1, 2), (1, 0)])
        self.assertEqual(other.calls(), [])
        self.assertEqual(other.call(0, 0), (0, 0, []))
        self.assertEqual(one.call(0, 0), (3, 1, [(2, 1, 0), (1, 0, 1)]))
        one.end(0)
        self.assertEqual(other.calls(), [(0, 0, 0, 0)])
        self.assertRaises(NoCall, other.end, 1)

    def test_kinds(self):
        hall = Hall(3, 2, 2)
        called(hall, [(0, 1), (1, 2), (1, 0)])
        told = hall.call(0, 0)
        self.assertIs(type(told), tuple)
        self.assertIs(type(told[2]), list)
        self.assertEqual({type(move) for move in told[2]}, {tuple})
        self.assertIs(type(hall.calls()), list)
        self.assertEqual({type(call) for call in hall.calls()}, {tuple})


class Runs(unittest.TestCase):
    def assert_laid(self, calls, middles):
        for side in (1, 2):
            used = [(call[side], call[3]) for call in calls]
            self.assertEqual(len(set(used)), len(used))
        self.assertTrue(all(0 <= call[3] < middles for call in calls))

    def run_beside_model(self, size, lines, middles, seed):
        chance = random.Random(seed)
        hall, model = Hall(size, lines, middles), Model(middles)
        longest = 0
        for _ in range(120):
            front, behind = chance.randrange(size), chance.randrange(size)
            calls = hall.calls()
            if calls and chance.random() < 0.25:
                number = chance.choice(calls)[0]
                hall.end(number)
                del model.laid[number]
            elif max([c[1] for c in calls].count(front), [c[2] for c in calls].count(behind)) >= lines:
                self.assertRaises(TooMany, hall.call, front, behind)
            else:
                told = hall.call(front, behind)
                self.assertEqual(told, model.call(front, behind))
                self.assert_moves(size, front, told, calls, hall.calls())
                longest = max(longest, len(told[2]))
            self.assertEqual(hall.calls(), model.calls())
            self.assert_laid(hall.calls(), middles)
        return longest

    def assert_moves(self, size, front, told, before, after):
        number, middle, moves = told
        self.assertLess(len(moves), 2 * size)
        places = {call[0]: call for call in before}
        self.assertNotIn(front, [places[moved][1] for moved, _, _ in moves])
        for moved, here, there in moves:
            self.assertEqual(places[moved][3], here)
            places[moved] = places[moved][:3] + (there,)
        rest = [call for call in after if call[0] != number]
        self.assertEqual(sorted(places.values()), rest)
        self.assertEqual([call[3] for call in after if call[0] == number], [middle])

    def test_beside_the_model(self):
        longest = 0
        for size, lines, middles in halls():
            moved = self.run_beside_model(size, lines, middles, 10 * size + lines)
            if middles >= 2 * lines - 1:
                self.assertEqual(moved, 0)
            longest = max(longest, moved)
        self.assertGreater(longest, 3)

    def test_long_chains(self):
        longest = max(self.run_beside_model(5, 4, 4, seed) for seed in range(40))
        self.assertGreater(longest, 5)

    def test_no_moves_with_twice_the_lines_less_one(self):
        for size, lines in itertools.product(range(2, 6), range(1, 5)):
            for seed in range(6):
                self.assertEqual(self.run_beside_model(size, lines, 2 * lines - 1, seed), 0)

    def test_moves_with_one_middle_fewer(self):
        for lines in (2, 3, 4):
            moved = [self.run_beside_model(5, lines, 2 * lines - 2, seed) for seed in range(150)]
            self.assertGreater(max(moved), 0)

    def test_a_thousand_calls_that_end_at_once(self):
        hall = Hall(3, 2, 3)
        self.assertEqual(hall.call(2, 2), (0, 0, []))
        for number in range(1, 1001):
            front = number % 3
            self.assertEqual(hall.call(front, 0), (number, 1 if front == 2 else 0, []))
            hall.end(number)
        self.assertEqual(hall.calls(), [(0, 2, 2, 0)])
        self.assertEqual(hall.call(0, 2), (1001, 1, []))


if __name__ == "__main__":
    unittest.main()
