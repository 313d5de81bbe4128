import unittest

import reference
from asking import FEWEST, GAPS, LOOK, USUAL, ask, begin, flip, last


def told(row):
    return [len(row)] + list(row)


class Fewest(unittest.TestCase):
    def assert_fewest(self, b, stack, row):
        self.assertEqual(last(begin(b, stack), FEWEST), told(row))

    def test_a_sorted_stack_needs_none(self):
        for b, most in ((0, 8), (1, 6)):
            for n in range(1, most + 1):
                self.assert_fewest(b, list(range(1, n + 1)), [])

    def test_one_flip(self):
        self.assert_fewest(0, [2, 1], [2])
        self.assert_fewest(0, [3, 2, 1, 4], [3])
        self.assert_fewest(1, [-1], [1])
        self.assert_fewest(1, [-1, 2, 3], [1])
        self.assert_fewest(1, [-2, -1, 3], [2])

    def test_of_several_rows_the_first(self):
        # Each row that stands behind the first sorts the stack, too, in as many flips.
        for b, stack, first, others in (
                (0, (1, 3, 2), (2, 3, 2), [(3, 2, 3)]),
                (0, (2, 4, 1, 3), (2, 4, 3, 2), [(3, 2, 4, 3)]),
                (0, (3, 1, 4, 2), (2, 3, 4, 2), [(3, 4, 2, 3)]),
                (0, (4, 2, 3, 1), (2, 3, 2, 4), [(3, 2, 3, 4), (4, 2, 3, 2), (4, 3, 2, 3)]),
                (1, (1, 3, 2), (1, 2, 3, 2), [(2, 3, 2, 1)]),
                (1, (2, -1, -3), (1, 2, 3, 1, 3), [(1, 3, 1, 3, 2), (3, 1, 3, 1, 2)])):
            for row in [first] + others:
                self.assertTrue(reference.is_sorted(reference.after_row(b, stack, row)))
            self.assert_fewest(b, stack, first)

    def test_the_worst_of_two_with_sides(self):
        self.assert_fewest(1, [-1, -2], [1, 2, 1, 2])

    def test_the_worst_of_the_greatest(self):
        row = last(begin(1, [-1, -2, -3, -4, -5, -6]), FEWEST)
        self.assertEqual(row, [12, 1, 3, 5, 2, 6, 2, 5, 3, 1, 4, 6, 4])

    def test_every_small_stack_by_trying_every_row(self):
        for b, n in ((0, 1), (0, 2), (0, 3), (0, 4), (1, 1), (1, 2)):
            for stack in reference.all_stacks(b, n):
                self.assert_fewest(b, stack, reference.first_row_by_trying(b, stack))

    def assert_by_distance(self, b, n, step):
        found = reference.distances(b, n)
        for stack in list(found)[::step]:
            self.assert_fewest(b, stack, reference.first_row_by_distance(b, stack, found))

    def test_every_stack_of_middling_size(self):
        self.assert_by_distance(0, 5, 1)
        self.assert_by_distance(0, 6, 1)
        self.assert_by_distance(1, 3, 1)
        self.assert_by_distance(1, 4, 1)

    def test_many_of_the_greatest_stacks(self):
        self.assert_by_distance(0, 7, 11)
        self.assert_by_distance(0, 8, 53)
        self.assert_by_distance(1, 5, 7)
        self.assert_by_distance(1, 6, 101)

    def test_goes_from_the_stack_as_it_lies_now(self):
        # [3, 1, 2] turned over whole is [2, 1, 3].
        self.assertEqual(ask(begin(0, [3, 1, 2]), FEWEST, flip(3), FEWEST)[1::2], [[2, 3, 2], [1, 2]])

    def test_a_whole_line_of_the_hardest_stack(self):
        answered = ask(begin(1, [-1, -2, -3, -4, -5, -6]), *[FEWEST] * 39)
        self.assertEqual([answer[0] for answer in answered[1:]], [12] * 39)


class Usual(unittest.TestCase):
    def assert_usual(self, b, stack, row):
        self.assertEqual(last(begin(b, stack), USUAL), told(row))

    def test_a_sorted_stack_needs_none(self):
        for b, most in ((0, 8), (1, 6)):
            for n in range(1, most + 1):
                self.assert_usual(b, list(range(1, n + 1)), [])

    def test_the_greatest_is_brought_up_and_put_down(self):
        self.assert_usual(0, [1, 3, 2], [2, 3, 2])

    def test_what_is_at_the_top_is_not_brought_there(self):
        self.assert_usual(0, [3, 1, 2], [3, 2])

    def test_what_is_in_its_place_is_passed_over(self):
        self.assert_usual(0, [2, 1, 3, 4], [2])
        self.assert_usual(1, [-1, 2], [1])

    def test_a_size_at_its_place_with_its_burnt_side_up_is_not_in_its_place(self):
        self.assert_usual(1, [1, -2], [2, 1, 2])

    def test_at_the_top_with_its_burnt_side_up_it_goes_straight_down(self):
        self.assert_usual(1, [-2, -1], [2])

    def test_at_the_top_with_its_burnt_side_down_it_is_turned_first(self):
        self.assert_usual(1, [2, 1], [1, 2, 1])

    def test_size_1_with_its_burnt_side_up_takes_one_flip(self):
        self.assert_usual(1, [-1], [1])

    def test_brought_up_with_its_burnt_side_up_needs_no_flip_of_1(self):
        self.assert_usual(1, [-1, 3, 2], [2, 3, 2])

    def test_the_usual_way_need_not_be_the_shortest_nor_the_first(self):
        self.assertEqual(ask(begin(0, [3, 1, 4, 2]), FEWEST, USUAL)[1:], [[4, 2, 3, 4, 2], [4, 3, 4, 2, 3]])
        self.assertEqual(ask(begin(1, [-1, -3, -2]), FEWEST, USUAL)[1:], [[4, 1, 3, 2, 3], [5, 2, 1, 3, 1, 2]])

    def test_every_small_stack(self):
        for b, n in ((0, 4), (0, 5), (0, 6), (1, 2), (1, 3), (1, 4)):
            for stack in reference.all_stacks(b, n):
                self.assert_usual(b, stack, reference.usual_row(b, stack))

    def test_many_of_the_greatest_stacks(self):
        for b, n, step in ((0, 8, 29), (1, 6, 31)):
            for stack in list(reference.all_stacks(b, n))[::step]:
                row = reference.usual_row(b, stack)
                self.assertTrue(reference.is_sorted(reference.after_row(b, stack, row)))
                self.assert_usual(b, stack, row)


class NothingChanges(unittest.TestCase):
    def test_by_gaps_fewest_and_usual(self):
        for b, stack in ((0, [3, 1, 4, 2]), (1, [3, -1, 4, -2])):
            answered = ask(
                begin(b, stack), flip(3), LOOK, GAPS, LOOK, FEWEST, LOOK, USUAL, LOOK, FEWEST, USUAL)
            lying = [1, b] + list(reference.after_flip(b, tuple(stack), 3))
            self.assertEqual(answered[2:9:2], [lying] * 4)
            self.assertEqual(answered[5], answered[9])
            self.assertEqual(answered[7], answered[10])


if __name__ == "__main__":
    unittest.main()
