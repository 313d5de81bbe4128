import unittest

from asking import FEWEST, GAPS, LOOK, USUAL, ask, begin, flip
from panstack.turner import answers


class Interface(unittest.TestCase):
    def test_number_by_number(self):
        # begin, flip, look, gaps, fewest, usual: ahead of each answer stands its length.
        self.assertEqual(
            answers([0, 1, 2, -1, -2, 1, 1, 2, 3, 4, 5]),
            [1, 0, 1, 2, 4, 1, 1, 1, -2, 1, 2, 4, 3, 2, 1, 2, 4, 3, 2, 1, 2])

    def test_a_sorted_stack_has_0_alone_for_its_flips(self):
        self.assertEqual(answers([0, 0, 1, 1, 4, 5]), [1, 0, 1, 0, 1, 0])

    def test_refusals_are_their_number_alone(self):
        self.assertEqual(
            answers([2, 0, 5, 0, 0, 0, 3, 1, 1, 2, 3, 0, 0, 1, 1, 1, 2]),
            [1, -9, 1, -1, 1, -1, 1, -9, 1, 0, 1, -1])

    def test_a_refused_stack_is_read_to_its_end(self):
        self.assertEqual(answers([0, 0, 20] + [3] * 20 + [0, 0, 1, 1, 3]), [1, -1, 1, 0, 1, 0])

    def test_forty_calls(self):
        self.assertEqual(ask(begin(0, [2, 1]), *[flip(2)] * 39), [[0]] + [[0], [1]] * 19 + [[0]])

    def test_nothing_is_kept_from_one_time_to_the_next(self):
        ask(begin(1, [-2, 1]), flip(1))
        self.assertEqual(ask(LOOK, GAPS, FEWEST, USUAL, flip(0)), [[-9]] * 5)
        self.assertEqual(ask(begin(0, [2, 1]), LOOK), ask(begin(0, [2, 1]), LOOK))

    def test_what_is_answered_is_a_list_of_its_own(self):
        handed_in = [0, 0, 2, 2, 1, 2]
        told = answers(handed_in)
        told.append(7)
        self.assertEqual(handed_in, [0, 0, 2, 2, 1, 2])
        self.assertEqual(answers(handed_in), [1, 0, 4, 0, 0, 2, 1])

    def test_what_is_handed_in_stays_as_it_was_for_the_whole_time(self):
        class Unchanging(list):
            def refuse(self, *given):
                raise AssertionError("what was handed in was changed")

            append = extend = insert = pop = remove = clear = reverse = sort = refuse
            __setitem__ = __delitem__ = __iadd__ = __imul__ = refuse

        calls = begin(0, [3, 1, 2]) + flip(2) + LOOK + GAPS + FEWEST + USUAL + begin(3, [1]) + flip(9)
        self.assertEqual(answers(Unchanging(calls)), answers(calls))


if __name__ == "__main__":
    unittest.main()
