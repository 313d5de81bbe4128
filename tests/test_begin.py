import unittest

from asking import (
    FEWEST, GAPS, HINT, LOOK, USUAL, ask, begin, flip, last, round_of, same, tally, try_row, worst)

OF_A_STACK = (
    flip(0), flip(1), flip(20), LOOK, GAPS, FEWEST, USUAL, try_row([]), try_row([1]), try_row([20]),
    same([], []), same([1], [20]), same([20] * 60, [0] * 60), round_of([]), round_of([2, 1]), round_of([20]), HINT)


class BeginTakes(unittest.TestCase):
    def assert_taken(self, b, stack):
        self.assertEqual(ask(begin(b, stack), LOOK), [[0], [0, b] + stack])

    def test_a_stack_without_sides(self):
        self.assert_taken(0, [3, 1, 2])

    def test_a_stack_with_sides(self):
        self.assert_taken(1, [-3, 1, -2])

    def test_sides_may_count_with_no_burnt_side_up(self):
        self.assert_taken(1, [2, 1])

    def test_the_least_stacks(self):
        self.assert_taken(0, [1])
        self.assert_taken(1, [1])
        self.assert_taken(1, [-1])

    def test_the_greatest_stacks(self):
        self.assert_taken(0, [8, 7, 6, 5, 4, 3, 2, 1])
        self.assert_taken(1, [-6, 5, -4, 3, -2, 1])


class BeginRefuses(unittest.TestCase):
    def assert_refused(self, b, stack):
        self.assertEqual(ask(begin(b, stack), LOOK), [[-1], [-9]])
        # What there was stays, with its flips and its sides.
        self.assertEqual(
            ask(begin(1, [-2, 3, 1]), flip(2), flip(0), begin(b, stack), LOOK, GAPS),
            [[0], [3], [3], [-1], [2, 1, -3, 2, 1], [3]])

    def test_b_above_1(self):
        for b in range(2, 6):
            self.assert_refused(b, [1, 2])

    def test_no_size_at_all(self):
        self.assert_refused(0, [])
        self.assert_refused(1, [])

    def test_too_many_sizes(self):
        self.assert_refused(0, list(range(1, 10)))
        self.assert_refused(1, list(range(1, 8)))
        self.assert_refused(1, [-7, 1, 2, 3, 4, 5, 6])
        self.assert_refused(0, list(range(1, 21)))
        self.assert_refused(1, list(range(-20, 0)))

    def test_more_sizes_are_fine_only_without_sides(self):
        self.assert_refused(1, [8, 7, 6, 5, 4, 3, 2, 1])
        self.assertEqual(last(begin(0, [7, 6, 5, 4, 3, 2, 1])), [0])

    def test_a_size_twice(self):
        self.assert_refused(0, [1, 1])
        self.assert_refused(0, [1, 2, 2])
        self.assert_refused(1, [1, -1])
        self.assert_refused(1, [-2, 1, 2])

    def test_a_size_left_out(self):
        self.assert_refused(0, [2])
        self.assert_refused(0, [1, 3])
        self.assert_refused(0, [20])
        self.assert_refused(1, [-2])
        self.assert_refused(1, [-1, -2, -4])

    def test_zero_is_no_size(self):
        self.assert_refused(0, [0])
        self.assert_refused(0, [0, 1])
        self.assert_refused(1, [0, 1])
        self.assert_refused(1, [1, 0, -2])

    def test_below_0_where_sides_do_not_count(self):
        self.assert_refused(0, [-1])
        self.assert_refused(0, [1, -2, 3])


class BeginAgain(unittest.TestCase):
    def test_another_stack_stands_instead_not_flipped_yet(self):
        self.assertEqual(
            ask(begin(1, [-2, 1]), flip(1), flip(2), LOOK, begin(0, [3, 1, 2]), LOOK),
            [[0], [2], [2], [2, 1, -1, -2], [0], [0, 0, 3, 1, 2]])

    def test_sides_count_from_then_on(self):
        self.assertEqual(
            ask(begin(0, [2, 1]), flip(2), begin(1, [2, 1]), flip(2), LOOK),
            [[0], [0], [0], [2], [1, 1, -1, -2]])

    def test_the_same_stack_again(self):
        self.assertEqual(ask(begin(0, [2, 1]), flip(2), begin(0, [2, 1]), LOOK)[-1], [0, 0, 2, 1])


class WithoutAStack(unittest.TestCase):
    def test_all_of_a_stack_answer_minus_9(self):
        for call in OF_A_STACK:
            self.assertEqual(ask(call), [[-9]])

    def test_also_behind_a_refused_begin(self):
        self.assertEqual(ask(begin(2, [1]), *OF_A_STACK), [[-1]] + [[-9]] * len(OF_A_STACK))

    def test_tally_and_worst_need_none(self):
        self.assertEqual(
            ask(tally(0, 2), worst(0, 2), tally(2, 2), worst(1, 4), LOOK),
            [[1, 1], [1, 2, 1], [-1], [-1], [-9]])

    def test_a_stack_may_come_later(self):
        self.assertEqual(ask(LOOK, flip(1), begin(0, [1]), LOOK), [[-9], [-9], [0], [0, 0, 1]])


if __name__ == "__main__":
    unittest.main()
