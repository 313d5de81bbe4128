import unittest

import reference
from asking import FEWEST, HINT, LOOK, ask, begin, flip, last


class Hint(unittest.TestCase):
    def test_the_first_flip_and_how_many_follow(self):
        self.assertEqual(last(begin(0, [1, 3, 2]), HINT), [2, 2])
        self.assertEqual(last(begin(0, [3, 1, 4, 2]), HINT), [2, 3])
        self.assertEqual(last(begin(1, [2, -1, -3]), HINT), [1, 4])
        self.assertEqual(last(begin(1, [-1, -2, -3, -4, -5, -6]), HINT), [1, 11])

    def test_none_follow_the_last(self):
        self.assertEqual(last(begin(0, [2, 1]), HINT), [2, 0])
        self.assertEqual(last(begin(1, [-1]), HINT), [1, 0])
        self.assertEqual(last(begin(1, [-2, -1]), HINT), [2, 0])

    def test_of_a_sorted_stack_0_alone(self):
        for b, most in ((0, 8), (1, 6)):
            for n in range(1, most + 1):
                self.assertEqual(last(begin(b, range(1, n + 1)), HINT), [0])

    def test_it_is_the_row_that_fewest_tells(self):
        for b, n, step in ((0, 4, 1), (0, 6, 3), (0, 8, 401), (1, 3, 1), (1, 4, 3), (1, 6, 907)):
            for stack in list(reference.all_stacks(b, n))[::step]:
                answered = ask(begin(b, stack), FEWEST, HINT)
                row = answered[1][1:]
                self.assertEqual(answered[2], [row[0], len(row) - 1] if row else [0])

    def test_the_least_way_by_trying(self):
        for b, n in ((0, 3), (0, 4), (1, 2)):
            for stack in reference.all_stacks(b, n):
                row = reference.first_row_by_trying(b, stack)
                self.assertEqual(last(begin(b, stack), HINT), [row[0], len(row) - 1] if row else [0])

    def test_hints_followed_one_by_one_sort_the_stack(self):
        for b, stack in ((0, (8, 2, 6, 4, 5, 3, 7, 1)), (1, (-1, -2, -3, -4, 5))):
            left = reference.flips_needed(b, stack)
            flips = []
            while left:
                answered = last(begin(b, stack), *[flip(k) for k in flips], HINT)
                self.assertEqual(answered[1], left - 1)
                flips.append(answered[0])
                left -= 1
            self.assertEqual(last(begin(b, stack), *[flip(k) for k in flips], HINT), [0])

    def test_nothing_changes(self):
        for b, stack in ((0, [3, 1, 4, 2]), (1, [3, -1, 4, -2]), (0, [2, 1])):
            answered = ask(begin(b, stack), flip(2), LOOK, HINT, LOOK, HINT)
            self.assertEqual(answered[2], answered[4])
            self.assertEqual(answered[3], answered[5])


if __name__ == "__main__":
    unittest.main()
