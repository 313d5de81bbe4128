import unittest

import reference
from asking import GAPS, LOOK, ask, begin, flip, last


class Flip(unittest.TestCase):
    def test_the_top_k_lie_in_the_other_order(self):
        self.assertEqual(last(begin(0, [3, 1, 4, 2]), flip(3), LOOK), [1, 0, 4, 1, 3, 2])

    def test_where_sides_count_each_has_its_other_side_up(self):
        self.assertEqual(last(begin(1, [3, -1, 4, -2]), flip(3), LOOK), [1, 1, -4, 1, -3, -2])

    def test_of_0_turns_none_but_is_a_flip(self):
        self.assertEqual(ask(begin(0, [2, 1]), flip(0), LOOK), [[0], [1], [1, 0, 2, 1]])
        self.assertEqual(ask(begin(1, [2, -1]), flip(0), LOOK), [[0], [2], [1, 1, 2, -1]])

    def test_of_1(self):
        self.assertEqual(last(begin(0, [2, 1]), flip(1), LOOK), [1, 0, 2, 1])
        self.assertEqual(last(begin(1, [2, 1]), flip(1), LOOK), [1, 1, -2, 1])
        self.assertEqual(last(begin(1, [-1]), flip(1), LOOK), [1, 1, 1])

    def test_of_n_turns_the_whole_stack(self):
        self.assertEqual(
            ask(begin(0, [8, 7, 6, 5, 4, 3, 2, 1]), flip(8), LOOK),
            [[0], [0], [1, 0, 1, 2, 3, 4, 5, 6, 7, 8]])
        self.assertEqual(
            ask(begin(1, [-6, -5, -4, -3, -2, -1]), flip(6), LOOK),
            [[0], [0], [1, 1, 1, 2, 3, 4, 5, 6]])

    def test_above_n_is_refused_and_nothing_changes(self):
        for b, stack in ((0, [3, 1, 2]), (1, [3, -1, 2]), (0, [1]), (1, [-1])):
            n = len(stack)
            for k in range(n + 1, 21):
                self.assertEqual(ask(begin(b, stack), flip(k), LOOK), [[0], [-1], [0, b] + stack])

    def test_above_n_does_not_count_as_a_flip(self):
        self.assertEqual(
            ask(begin(0, [2, 1]), flip(2), flip(3), flip(0), LOOK),
            [[0], [0], [-1], [0], [2, 0, 1, 2]])

    def test_answers_the_gaps_there_are_then(self):
        self.assertEqual(
            ask(begin(0, [2, 4, 1, 3]), flip(2), flip(4), flip(3), GAPS),
            [[0], [3], [2], [1], [1]])

    def test_every_flip_of_every_small_stack(self):
        for b, n in ((0, 4), (1, 3)):
            for stack in reference.all_stacks(b, n):
                for k in range(n + 1):
                    then = reference.after_flip(b, stack, k)
                    self.assertEqual(
                        ask(begin(b, stack), flip(k), LOOK),
                        [[0], [reference.gaps(b, then)], [1, b] + list(then)])


class Look(unittest.TestCase):
    def test_counts_the_flips_of_a_whole_line(self):
        calls = [begin(1, [1, 2, 3])] + [flip(k % 4) for k in range(38)] + [LOOK]
        self.assertEqual(last(*calls)[:2], [38, 1])

    def test_changes_nothing(self):
        seen = ask(begin(0, [2, 3, 1]), flip(2), LOOK, LOOK)
        self.assertEqual(seen[2:], [[1, 0, 3, 2, 1], [1, 0, 3, 2, 1]])


class Gaps(unittest.TestCase):
    def assert_gaps(self, b, stack, count):
        self.assertEqual(last(begin(b, stack), GAPS), [count])

    def test_a_sorted_stack_has_none(self):
        for b, most in ((0, 8), (1, 6)):
            for n in range(1, most + 1):
                self.assert_gaps(b, list(range(1, n + 1)), 0)

    def test_at_the_plate(self):
        self.assert_gaps(0, [2, 1], 1)
        self.assert_gaps(0, [8, 7, 6, 5, 4, 3, 2, 1], 1)
        self.assert_gaps(1, [-1], 1)
        self.assert_gaps(1, [1, 2, 3, 4, 5, -6], 2)

    def test_downward_neighbours_have_none_without_sides(self):
        self.assert_gaps(0, [2, 1, 3], 1)
        self.assert_gaps(0, [1, 3, 2], 2)

    def test_downward_neighbours_have_one_where_sides_count(self):
        self.assert_gaps(1, [2, 1, 3], 2)
        self.assert_gaps(1, [3, 2, 1], 3)

    def test_signs_count_where_sides_do(self):
        self.assert_gaps(1, [-2, -1], 1)
        self.assert_gaps(1, [-1, -2], 2)
        self.assert_gaps(1, [-1, 2], 1)
        self.assert_gaps(1, [1, -2], 2)
        self.assert_gaps(1, [-1, 2, 3], 1)

    def test_all_neighbours_apart(self):
        self.assert_gaps(0, [2, 4, 1, 3], 4)
        self.assert_gaps(0, [2, 4, 6, 8, 1, 3, 5, 7], 8)

    def test_every_small_stack(self):
        for b, n in ((0, 5), (1, 4)):
            for stack in reference.all_stacks(b, n):
                self.assert_gaps(b, list(stack), reference.gaps(b, stack))


if __name__ == "__main__":
    unittest.main()
