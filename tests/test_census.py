import unittest

import reference
from asking import LOOK, ask, begin, flip, last, tally, worst
from panstack.census import first_of

TAKEN = [(0, n) for n in range(1, 6)] + [(1, n) for n in range(1, 4)]
REFUSED = [(b, n) for b in range(10) for n in range(10) if (b, n) not in TAKEN]


class Tally(unittest.TestCase):
    def test_each_size_as_it_stands(self):
        for b, n, due in (
                (0, 1, [1]), (0, 2, [1, 1]), (0, 3, [1, 2, 2, 1]), (0, 4, [1, 3, 6, 11, 3]),
                (0, 5, [1, 4, 12, 35, 48, 20]),
                (1, 1, [1, 1]), (1, 2, [1, 2, 2, 2, 1]), (1, 3, [1, 3, 6, 12, 18, 6, 2])):
            self.assertEqual(ask(tally(b, n)), [due])

    def test_each_size_counted_over_again(self):
        for b, n in TAKEN:
            self.assertEqual(ask(tally(b, n)), [reference.tally(b, n)])

    def test_anything_else_is_refused(self):
        for b, n in REFUSED:
            self.assertEqual(ask(tally(b, n)), [[-1]])
            self.assertEqual(last(begin(1, [2, 1]), tally(b, n)), [-1])


class Worst(unittest.TestCase):
    def test_each_size_as_it_stands(self):
        for b, n, due in (
                (0, 1, [0, 1]), (0, 2, [1, 2, 1]), (0, 3, [3, 1, 3, 2]), (0, 4, [4, 2, 4, 1, 3]),
                (0, 5, [5, 1, 3, 2, 5, 4]),
                (1, 1, [1, -1]), (1, 2, [4, -1, -2]), (1, 3, [6, -1, -2, -3])):
            self.assertEqual(ask(worst(b, n)), [due])

    def test_each_size_sought_over_again(self):
        for b, n in TAKEN:
            self.assertEqual(ask(worst(b, n)), [reference.worst(b, n)])

    def test_of_several_the_first(self):
        # The others need as many flips, but stand behind.
        self.assertEqual(ask(worst(0, 4)), [[4, 2, 4, 1, 3]])
        for other in ((3, 1, 4, 2), (4, 2, 3, 1)):
            self.assertEqual(reference.flips_needed(0, other), 4)
        self.assertEqual(ask(worst(1, 3)), [[6, -1, -2, -3]])
        self.assertEqual(reference.flips_needed(1, (1, -2, -3)), 6)

    def test_anything_else_is_refused(self):
        for b, n in REFUSED:
            self.assertEqual(ask(worst(b, n)), [[-1]])
            self.assertEqual(last(begin(1, [2, 1]), worst(b, n)), [-1])


class FirstOfSeveralStacks(unittest.TestCase):
    def assert_ahead(self, one, other):
        self.assertEqual(first_of([one, other]), one)
        self.assertEqual(first_of([other, one]), one)

    def test_the_lesser_size_at_the_first_place_that_differs(self):
        self.assert_ahead([1, 3, 2], [2, 1, 3])
        self.assert_ahead([1, 2, 3], [1, 3, 2])

    def test_whichever_side_is_up(self):
        self.assert_ahead([1, 2, 3], [-2, 1, 3])
        self.assert_ahead([-1, 2, 3], [2, -1, 3])
        self.assert_ahead([3, 1, -2], [3, -2, 1])

    def test_of_one_size_the_burnt_side_up(self):
        self.assert_ahead([-1, 2], [1, 2])
        self.assert_ahead([2, -1], [2, 1])

    def test_an_earlier_place_weighs_more_than_a_later(self):
        self.assert_ahead([-1, 3, 2], [1, -2, 3])
        self.assert_ahead([1, 2, -3], [1, 3, -2])

    def test_among_all_stacks(self):
        for b, n in ((0, 4), (1, 3)):
            stacks = list(reference.all_stacks(b, n))
            first = tuple(-size if b else size for size in range(1, n + 1))
            self.assertEqual(first_of([list(stack) for stack in stacks]), list(first))
            for one in stacks[::5]:
                for other in stacks[::3]:
                    due = other if reference.is_ahead(other, one) else one
                    self.assertEqual(first_of([list(one), list(other)]), list(due))


class NothingChanges(unittest.TestCase):
    def test_with_a_stack(self):
        for b, n in TAKEN + [(2, 3), (0, 6), (1, 4), (0, 0)]:
            for call in (tally(b, n), worst(b, n)):
                for sides, stack in ((0, [3, 1, 2]), (1, [-3, 1, 2])):
                    answered = ask(begin(sides, stack), flip(2), LOOK, call, LOOK, call)
                    self.assertEqual(answered[4], answered[2])
                    self.assertEqual([answered[3], answered[5]], ask(call) * 2)

    def test_without_a_stack(self):
        self.assertEqual(ask(tally(0, 3), LOOK, worst(0, 3), LOOK), [[1, 2, 2, 1], [-9], [3, 1, 3, 2], [-9]])


if __name__ == "__main__":
    unittest.main()
