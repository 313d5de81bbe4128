import itertools
import unittest
import unittest.mock

import panstack.turner
import reference
from asking import LOOK, ask, begin, flip, last, round_of, same, try_row

# Stacks of each sort, the least and the greatest among them.
STACKS = ((0, [3, 1, 2]), (1, [3, -1, 2]), (0, [1]), (1, [-1]), (0, [8, 7, 6, 5, 4, 3, 2, 1]), (1, [6, 5, 4, 3, 2, -1]))


def rows_above(n):
    rows = [[k] for k in range(n + 1, 21)]
    rows += [[n + 1, 0, n], [0, n + 1, n], [n, 0, n + 1], [n] * 59 + [20], [20] * 60]
    return rows


def all_rows(n, length):
    return itertools.product(range(n + 1), repeat=length)


class TryRow(unittest.TestCase):
    def test_tells_the_gaps_and_the_stack_as_they_would_be(self):
        self.assertEqual(last(begin(0, [3, 1, 4, 2]), try_row([3])), [3, 4, 1, 3, 2])
        self.assertEqual(last(begin(0, [3, 1, 4, 2]), try_row([4, 3, 4, 2])), [2, 2, 3, 4, 1])
        self.assertEqual(last(begin(0, [3, 1, 2]), try_row([3, 2])), [0, 1, 2, 3])

    def test_sizes_below_0_where_sides_count(self):
        self.assertEqual(last(begin(1, [3, -1, 2]), try_row([2])), [3, 1, -3, 2])
        self.assertEqual(last(begin(1, [1, 2]), try_row([2])), [1, -2, -1])
        self.assertEqual(last(begin(1, [-1]), try_row([1])), [0, 1])

    def test_an_empty_row(self):
        self.assertEqual(last(begin(0, [3, 1, 2]), try_row([])), [2, 3, 1, 2])
        self.assertEqual(last(begin(1, [-2, -1]), try_row([])), [1, -2, -1])

    def test_flips_of_0_turn_none(self):
        self.assertEqual(last(begin(0, [3, 1, 2]), try_row([0])), [2, 3, 1, 2])
        self.assertEqual(last(begin(1, [-2, 1]), try_row([0, 2, 0])), [1, -1, 2])
        self.assertEqual(last(begin(1, [-2, 1]), try_row([0] * 60)), [2, -2, 1])

    def test_a_flip_of_1_turns_a_side_alone(self):
        self.assertEqual(last(begin(0, [2, 1]), try_row([1])), [1, 2, 1])
        self.assertEqual(last(begin(1, [-2, -1]), try_row([1])), [2, 2, -1])

    def test_the_longest_rows(self):
        self.assertEqual(last(begin(0, [3, 1, 2]), try_row([3, 2] * 30)), [2, 3, 1, 2])
        self.assertEqual(last(begin(1, [3, 1, 2]), try_row([3] * 59 + [0])), [2, -2, -1, -3])

    def test_goes_from_the_stack_as_it_lies_now(self):
        self.assertEqual(last(begin(0, [3, 1, 2]), flip(3), try_row([2])), [0, 1, 2, 3])

    def test_a_flip_of_n_is_fine_and_one_above_n_is_refused(self):
        for b, stack in STACKS:
            n = len(stack)
            turned = list(reference.after_flip(b, tuple(stack), n))
            self.assertEqual(last(begin(b, stack), try_row([n]))[1:], turned)
            for row in rows_above(n):
                self.assertEqual(last(begin(b, stack), try_row(row)), [-1])

    def test_every_short_row_of_every_small_stack(self):
        for b, n in ((0, 3), (0, 4), (1, 2), (1, 3)):
            for stack in reference.all_stacks(b, n):
                for length in range(3):
                    for row in all_rows(n, length):
                        then = reference.after_row(b, stack, row)
                        due = [reference.gaps(b, then)] + list(then)
                        self.assertEqual(last(begin(b, stack), try_row(row)), due)


class Same(unittest.TestCase):
    def test_1_where_both_leave_the_stack_alike(self):
        self.assertEqual(last(begin(0, [1, 3, 2]), same([2, 3, 2], [3, 2, 3])), [1])
        self.assertEqual(last(begin(1, [1, 3, 2]), same([1, 2, 3, 2], [2, 3, 2, 1])), [1])
        self.assertEqual(last(begin(0, [3, 1, 2]), same([3, 3, 2], [2])), [1])

    def test_0_else(self):
        self.assertEqual(last(begin(0, [3, 1, 2]), same([2], [3])), [0])
        self.assertEqual(last(begin(0, [3, 1, 2]), same([2, 3], [3, 2])), [0])
        self.assertEqual(last(begin(1, [3, 1, 2]), same([2], [2, 1])), [0])

    def test_the_side_that_is_up_counts_where_sides_do(self):
        self.assertEqual(last(begin(0, [2, 1]), same([1], [])), [1])
        self.assertEqual(last(begin(1, [2, 1]), same([1], [])), [0])

    def test_gaps_alike_are_not_enough(self):
        self.assertEqual(ask(begin(0, [2, 4, 1, 3]), try_row([2]), try_row([3]), same([2], [3]))[1:],
                         [[3, 4, 2, 1, 3], [3, 1, 4, 2, 3], [0]])

    def test_both_rows_empty(self):
        for b, stack in STACKS:
            self.assertEqual(last(begin(b, stack), same([], [])), [1])

    def test_one_row_empty(self):
        self.assertEqual(last(begin(1, [-2, 1]), same([], [2, 0, 2])), [1])
        self.assertEqual(last(begin(1, [-2, 1]), same([2, 0, 2], [])), [1])
        self.assertEqual(last(begin(1, [-2, 1]), same([], [2])), [0])
        self.assertEqual(last(begin(1, [-2, 1]), same([2], [])), [0])

    def test_flips_of_0_turn_none(self):
        self.assertEqual(last(begin(0, [3, 1, 2]), same([0, 2, 0], [2])), [1])

    def test_the_longest_rows(self):
        self.assertEqual(last(begin(1, [3, 1, 2]), same([3, 2] * 30, [2, 3] * 30)), [1])
        self.assertEqual(last(begin(1, [3, 1, 2]), same([3] * 60, [3] * 59)), [0])

    def test_goes_by_the_stack_that_there_is_now(self):
        self.assertEqual(
            ask(begin(0, [2, 1]), same([3, 1], [3]), begin(0, [3, 1, 2]), same([3, 1], [3]), flip(2),
                same([3, 1], [3]), begin(1, [3, 1, 2]), same([3, 1], [3])),
            [[0], [-1], [0], [1], [2], [1], [0], [0]])

    def test_a_flip_above_n_is_refused_in_either_row(self):
        for b, stack in STACKS:
            n = len(stack)
            self.assertEqual(last(begin(b, stack), same([n], [n])), [1])
            for row in rows_above(n):
                for one, other in ((row, []), ([], row), (row, row), (row, [n]), ([n], row)):
                    self.assertEqual(last(begin(b, stack), same(one, other)), [-1])

    def test_every_two_short_rows(self):
        for b, stack in ((0, (2, 3, 1)), (0, (1, 2)), (1, (-2, 3, 1)), (1, (2, -1))):
            rows = [row for length in range(3) for row in all_rows(len(stack), length)]
            for one, other in itertools.product(rows, repeat=2):
                alike = reference.after_row(b, stack, one) == reference.after_row(b, stack, other)
                self.assertEqual(last(begin(b, stack), same(one, other)), [1 if alike else 0])


class RoundOf(unittest.TestCase):
    def assert_round(self, b, stack, row, times):
        self.assertEqual(last(begin(b, stack), round_of(row)), [times])

    def test_an_empty_row_has_to_be_done_once(self):
        for b, stack in STACKS:
            self.assert_round(b, stack, [], 1)

    def test_what_does_nothing_has_to_be_done_once(self):
        self.assert_round(0, [3, 1, 2], [0], 1)
        self.assert_round(0, [3, 1, 2], [1], 1)
        self.assert_round(0, [3, 1, 2], [3, 3], 1)
        self.assert_round(1, [-1, 2], [1, 0, 1], 1)

    def test_a_flip_has_to_be_done_twice(self):
        self.assert_round(0, [3, 1, 2], [2], 2)
        self.assert_round(1, [3, 1, 2], [1], 2)
        self.assert_round(1, [-1], [1], 2)

    def test_the_sides_have_to_lie_as_they_did_too(self):
        self.assert_round(0, [2, 1], [1, 2], 2)
        self.assert_round(1, [2, 1], [1, 2], 4)

    def test_rows_that_need_many_times(self):
        self.assert_round(0, [8, 1, 7, 2, 6, 3, 5, 4], [2, 3, 5, 8], 15)
        self.assert_round(0, [1, 2, 3, 4, 5, 6, 7, 8], [4, 7], 12)
        self.assert_round(0, [3, 1, 2, 7, 5, 6, 4], [3, 6, 7], 10)
        self.assert_round(1, [-1, 2, -3, 4, -5, 6], [3, 5], 12)
        self.assert_round(1, [5, 4, 3, 2, 1], [4, 5], 10)

    def test_a_row_of_sixty(self):
        self.assert_round(0, [1, 2, 3, 4, 5, 6, 7, 8], [6, 7] * 30, 7)
        self.assert_round(0, [3, 1, 2], [2, 3] * 30, 1)

    def test_a_flip_above_n_is_refused(self):
        for b, stack in STACKS:
            n = len(stack)
            self.assert_round(b, stack, [n], 1 if stack == [1] else 2)
            for row in rows_above(n):
                self.assertEqual(last(begin(b, stack), round_of(row)), [-1])

    def test_every_short_row_of_every_small_stack(self):
        for b, n in ((0, 3), (0, 4), (1, 2), (1, 3)):
            for stack in reference.all_stacks(b, n):
                for length in range(3):
                    for row in all_rows(n, length):
                        self.assert_round(b, stack, row, reference.times_until_again(b, stack, row))

    def test_no_row_of_any_stack_needs_more_than_a_hundred(self):
        # A row brings what lies at each place to another, whatever lies there, and these rows
        # stand for every way of doing so.
        for b, n, most in ((0, 5, 6), (0, 6, 6), (1, 3, 6), (1, 4, 8)):
            found = reference.distances(b, n)
            start = tuple(range(1, n + 1))
            times = []
            for stack in found:
                row = reference.first_row_by_distance(b, stack, found)
                times.append(reference.times_until_again(b, start, row))
                self.assert_round(b, start, row, times[-1])
            self.assertEqual(max(times), most)

    def test_more_than_the_bound_is_minus_6(self):
        # No row reaches a hundred, so the bound is lowered to be looked at.
        self.assertEqual(panstack.turner.MOST_TIMES, 100)
        line = (begin(0, [1, 2, 3, 4, 5, 6, 7, 8]), flip(0), round_of([2, 3, 5, 8]), LOOK)
        for bound, answer in ((15, 15), (14, -6)):
            with unittest.mock.patch("panstack.turner.MOST_TIMES", bound):
                self.assertEqual(ask(*line)[2:], [[answer], [1, 0, 1, 2, 3, 4, 5, 6, 7, 8]])


class NothingChanges(unittest.TestCase):
    def test_by_try_row_same_and_round_of(self):
        for b, stack in ((0, [3, 1, 4, 2]), (1, [3, -1, 4, -2])):
            lying = [2, b] + list(reference.after_row(b, tuple(stack), [3, 2]))
            for call in (try_row([4]), try_row([]), try_row([0]), try_row([5]), same([2], [3]), same([4], [4]),
                         same([5], []), same([], [5]), round_of([4]), round_of([3, 2]), round_of([]), round_of([5])):
                answered = ask(begin(b, stack), flip(3), flip(2), call, LOOK, call, LOOK)
                self.assertEqual([answered[4], answered[6]], [lying, lying])
                self.assertEqual(answered[3], answered[5])


if __name__ == "__main__":
    unittest.main()
