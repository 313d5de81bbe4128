import unittest

from asking import (
    FEWEST, GAPS, HINT, LOOK, USUAL, ask, begin, flip, round_of, same, tally, try_row, worst)
from panstack.turner import answers


class Interface(unittest.TestCase):
    def test_number_by_number(self):
        # begin, flip, look, gaps, fewest, usual: ahead of each answer stands its length.
        self.assertEqual(
            answers([0, 1, 2, -1, -2, 1, 1, 2, 3, 4, 5]),
            [1, 0, 1, 2, 4, 1, 1, 1, -2, 1, 2, 4, 3, 2, 1, 2, 4, 3, 2, 1, 2])

        # try_row, same, round_of, tally, worst, hint.
        self.assertEqual(
            answers([0, 1, 2, -1, -2, 6, 2, 1, 2, 7, 1, 2, 0, 8, 2, 1, 2, 9, 1, 2, 10, 1, 2, 11]),
            [1, 0, 3, 2, 2, -1, 1, 0, 1, 4, 5, 1, 2, 2, 2, 1, 3, 4, -1, -2, 2, 1, 3])

    def test_a_sorted_stack_has_0_alone_for_its_flips(self):
        self.assertEqual(answers([0, 0, 1, 1, 4, 5, 11]), [1, 0, 1, 0, 1, 0, 1, 0])

    def test_refusals_are_their_number_alone(self):
        self.assertEqual(
            answers([2, 0, 5, 0, 0, 0, 3, 1, 1, 2, 3, 0, 0, 1, 1, 1, 2]),
            [1, -9, 1, -1, 1, -1, 1, -9, 1, 0, 1, -1])

    def test_a_refused_stack_is_read_to_its_end(self):
        self.assertEqual(answers([0, 0, 20] + [3] * 20 + [0, 0, 1, 1, 3]), [1, -1, 1, 0, 1, 0])

    def test_a_refused_row_is_read_to_its_end(self):
        row = [3] * 60
        self.assertEqual(
            answers([0, 0, 1, 1, 6, 60] + row + [7, 60] + row + [60] + row + [8, 60] + row + [3]),
            [1, 0, 1, -1, 1, -1, 1, -1, 1, 0])
        self.assertEqual(
            answers([6, 60] + row + [7, 60] + row + [0] + [8, 60] + row + [9, 1, 1]),
            [1, -9, 1, -9, 1, -9, 2, 1, 1])

    def test_the_longest_list_of_calls(self):
        # Its 40 calls are 4920 numbers.
        self.assertEqual(
            ask(begin(0, [2, 1]), *[same([2] * 60, [2] * 58 + [0] * 2)] * 39), [[0]] + [[1]] * 39)
        self.assertEqual(len(answers(same([0] * 60, [0] * 60) * 40)), 80)

    def test_forty_calls(self):
        self.assertEqual(ask(begin(0, [2, 1]), *[flip(2)] * 39), [[0]] + [[0], [1]] * 19 + [[0]])

    def test_nothing_is_kept_from_one_time_to_the_next(self):
        ask(begin(1, [-2, 1]), flip(1))
        self.assertEqual(
            ask(LOOK, GAPS, FEWEST, USUAL, flip(0), try_row([]), same([], []), round_of([]), HINT), [[-9]] * 9)
        self.assertEqual(ask(begin(0, [2, 1]), LOOK), ask(begin(0, [2, 1]), LOOK))

    def test_what_is_answered_is_a_list_of_its_own(self):
        handed_in = [0, 0, 2, 2, 1, 2]
        told = answers(handed_in)
        told.append(7)
        self.assertEqual(handed_in, [0, 0, 2, 2, 1, 2])
        self.assertEqual(answers(handed_in), [1, 0, 4, 0, 0, 2, 1])

    def test_what_is_handed_in_stays_as_it_was_for_the_whole_time(self):
        class Unchanging(list):
            def refuse(self, *given):
                raise AssertionError("what was handed in was changed")

            append = extend = insert = pop = remove = clear = reverse = sort = refuse
            __setitem__ = __delitem__ = __iadd__ = __imul__ = refuse

        calls = begin(0, [3, 1, 2]) + flip(2) + LOOK + GAPS + FEWEST + USUAL + begin(3, [1]) + flip(9)
        calls += try_row([]) + try_row([2, 3]) + same([3], [2, 3]) + round_of([2, 3]) + tally(0, 5) + worst(1, 3)
        calls += HINT + try_row([4]) + same([4], []) + round_of([4]) + tally(2, 1) + worst(0, 6)
        self.assertEqual(answers(Unchanging(calls)), answers(calls))


if __name__ == "__main__":
    unittest.main()
