import copy
import itertools
import random
import unittest

from beatswitch.errors import TooMany
from beatswitch.middles import is_laid, laid
from samples import SIXTY_FIGURES, deep_things, odd_things


def regular(size, middles):
    """At each front and each behind as many calls as middles, forty at most."""
    return [(front, (front + k) % size) for k in range(middles) for front in range(size)]


def full_calls(size, middles, seed):
    """Calls till no front and behind have room for another one, by chance but the same each time."""
    chance = random.Random(seed)
    calls = regular(size, middles)
    for _ in range(60):
        a, b = chance.randrange(len(calls)), chance.randrange(len(calls))
        calls[a], calls[b] = (calls[a][0], calls[b][1]), (calls[b][0], calls[a][1])
    chance.shuffle(calls)
    return calls


def samples():
    for size, middles in itertools.product(range(2, 6), range(1, 9)):
        for seed in range(4):
            calls = full_calls(size, middles, seed)
            yield size, middles, calls
            yield size, middles, calls[:len(calls) // 2]


def clash(calls, told):
    """Whether two calls of one front or one behind have the same middle."""
    for one, other in itertools.combinations(range(len(calls)), 2):
        met = calls[one][0] == calls[other][0] or calls[one][1] == calls[other][1]
        if met and told[one] == told[other]:
            return True
    return False


class Laid(unittest.TestCase):
    def assert_right(self, size, middles, calls):
        before = copy.deepcopy(calls)
        told = laid(size, middles, calls)
        self.assertEqual(calls, before)
        self.assertIs(type(told), list)
        self.assertEqual(len(told), len(calls))
        for middle in told:
            self.assertIs(type(middle), int)
            self.assertIn(middle, range(middles))
        self.assertFalse(clash(calls, told), (size, middles, calls, told))
        self.assertIs(is_laid(size, middles, calls, told), True)

    def assert_too_many(self, size, middles, calls):
        before = copy.deepcopy(calls)
        self.assertRaises(TooMany, laid, size, middles, calls)
        self.assertEqual(calls, before)

    def test_as_many_calls_as_middles(self):
        for size, middles, calls in samples():
            self.assert_right(size, middles, calls)
            self.assert_right(size, middles, regular(size, middles))

    def test_forty_calls(self):
        for seed in range(30):
            calls = full_calls(5, 8, seed)
            self.assertEqual(len(calls), 40)
            self.assert_right(5, 8, calls)

    def test_no_calls(self):
        for size, middles in itertools.product(range(2, 6), range(1, 9)):
            self.assertEqual(laid(size, middles, []), [])

    def test_several_calls_of_one_front_for_one_behind(self):
        for size, middles in itertools.product(range(2, 6), range(1, 9)):
            calls = [(size - 1, 0)] * middles
            self.assert_right(size, middles, calls)
            self.assertEqual(sorted(laid(size, middles, calls)), list(range(middles)))
            self.assert_right(size, middles, calls + [(0, 1)] * middles)
            self.assert_too_many(size, middles, calls + [(size - 1, 0)])

    def test_all_small_lists(self):
        every = list(itertools.product((0, 1), repeat=2))
        for many, middles in itertools.product(range(5), (1, 2, 3)):
            for calls in itertools.product(every, repeat=many):
                most = max([0] + [[c[side] for c in calls].count(k) for side in (0, 1) for k in (0, 1)])
                if most <= middles:
                    self.assert_right(2, middles, list(calls))
                else:
                    self.assert_too_many(2, middles, list(calls))

    def test_too_many_of_a_front_alone(self):
        for size, middles in itertools.product(range(2, 6), range(1, 9)):
            calls = [(0, k % size) for k in range(middles + 1)]
            if middles >= 2:
                self.assert_too_many(size, middles, calls)
                self.assert_right(size, middles, calls[:-1])

    def test_too_many_of_a_behind_alone(self):
        for size, middles in itertools.product(range(2, 6), range(1, 9)):
            calls = [(k % size, size - 1) for k in range(middles + 1)]
            if middles >= 2:
                self.assert_too_many(size, middles, calls)
                self.assert_right(size, middles, calls[:-1])

    def test_one_more_at_each_place(self):
        for size, middles in itertools.product((2, 5), range(1, 7)):
            calls = regular(size, middles)
            for at in (0, len(calls) // 2, len(calls)):
                self.assert_too_many(size, middles, calls[:at] + [(0, size - 1)] + calls[at:])

    def test_a_list_told_is_the_askers_own(self):
        calls = regular(3, 3)
        before = laid(3, 3, calls)
        first = laid(3, 3, calls)
        first.clear()
        self.assertEqual(laid(3, 3, calls), before)
        self.assertIsNot(laid(2, 1, []), laid(2, 1, []))


class IsLaid(unittest.TestCase):
    def assert_wrong(self, size, middles, calls, thing):
        self.assertIs(is_laid(size, middles, calls, thing), False, repr((calls, thing))[:200])

    def test_all_lists_of_few_calls(self):
        every = list(itertools.product((0, 1), repeat=2))
        for many, middles in itertools.product(range(4), (1, 2, 3)):
            for calls in itertools.product(every, repeat=many):
                for told in itertools.product(range(-1, middles + 1), repeat=many):
                    right = all(0 <= k < middles for k in told) and not clash(calls, told)
                    self.assertIs(is_laid(2, middles, list(calls), list(told)), right)

    def test_no_calls(self):
        self.assertIs(is_laid(2, 1, [], []), True)
        for thing in ((), None, [0], [None], "", 0, False):
            self.assert_wrong(2, 1, [], thing)

    def test_other_middles_for_all(self):
        for size, middles, calls in samples():
            told = laid(size, middles, calls)
            turned = [(middle + 1) % middles for middle in told]
            self.assertIs(is_laid(size, middles, calls, turned), True)

    def test_a_middle_exchanged(self):
        for size, middles, calls in samples():
            told = laid(size, middles, calls)
            for at, other in itertools.product(range(len(calls)), range(middles)):
                bent = told[:at] + [other] + told[at + 1:]
                self.assertIs(is_laid(size, middles, calls, bent), not clash(calls, bent))

    def test_no_middles(self):
        for size, middles, calls in samples():
            told = laid(size, middles, calls)
            odd = [-1, middles, SIXTY_FIGURES, -SIXTY_FIGURES, True, False, None, "0", "", [], (0,)]
            for at in range(min(4, len(calls))):
                for other in odd:
                    self.assert_wrong(size, middles, calls, told[:at] + [other] + told[at + 1:])

    def test_truths_for_numbers(self):
        self.assertIs(is_laid(2, 2, [(0, 0), (0, 0)], [0, 1]), True)
        self.assert_wrong(2, 2, [(0, 0), (0, 0)], [0, True])
        self.assert_wrong(2, 2, [(0, 0), (0, 0)], [False, 1])

    def test_one_left_out_and_one_more(self):
        for size, middles, calls in samples():
            told = laid(size, middles, calls)
            for middle in range(middles):
                self.assert_wrong(size, middles, calls, told + [middle])
            for at in range(len(calls)):
                self.assert_wrong(size, middles, calls, told[:at] + told[at + 1:])

    def test_a_tuple(self):
        for size, middles, calls in samples():
            self.assert_wrong(size, middles, calls, tuple(laid(size, middles, calls)))

    def test_anything(self):
        calls = [(0, 1), (1, 0), (0, 0)]
        for thing in odd_things() + deep_things():
            for other in (thing, [thing], [thing] * 3, [0, 0, thing], (thing,) * 3):
                before = copy.deepcopy(other)
                if other != [0, 0, 1] or isinstance(thing, bool):
                    self.assert_wrong(2, 2, calls, other)
                self.assertEqual(other, before)

    def test_false_of_all_where_there_are_more_calls_than_middles(self):
        for calls in ([(0, 0), (0, 1), (0, 0)], [(0, 0), (1, 0), (1, 0)], [(1, 1)] * 3):
            for told in itertools.product(range(-1, 4), repeat=3):
                self.assert_wrong(2, 2, calls, list(told))
            for thing in odd_things():
                self.assert_wrong(2, 2, calls, thing)

    def test_what_is_handed_in_stays(self):
        calls = regular(2, 2)
        told = laid(2, 2, calls)
        before = list(calls), list(told)
        is_laid(2, 2, calls, told)
        self.assertEqual((calls, told), before)


if __name__ == "__main__":
    unittest.main()
