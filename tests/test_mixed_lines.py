"""Whole lines of calls of every kind, against an object told over again in the document's order."""

import random
import time
import unittest

import reference
from asking import (
    FEWEST, GAPS, HINT, LOOK, USUAL, ask, begin, flip, round_of, same, tally, try_row, worst)

MOST = {0: 5, 1: 3}
TALLIES = {(b, n): reference.tally(b, n) for b in MOST for n in range(1, MOST[b] + 1)}
WORSTS = {(b, n): reference.worst(b, n) for b in MOST for n in range(1, MOST[b] + 1)}
DISTANCES = {(b, n): reference.distances(b, n) for b in MOST for n in range(1, 6)}

# The stacks that need the most flips, and of those some that are sought the longest.
HARDEST = ((1, [-1, -2, -3, -4, -5, -6]), (1, [-2, -3, 1, -4, -5, -6]), (1, [2, 1, -3, -4, -5, -6]),
           (0, [3, 8, 1, 4, 6, 5, 7, 2]), (0, [8, 2, 6, 4, 5, 3, 7, 1]))


class Retold:
    def __init__(self):
        self.b = None
        self.stack = None
        self.flips = 0

    def begin(self, b, stack):
        if b > 1 or sorted(map(abs, stack)) != list(range(1, len(stack) + 1)) or not stack:
            return [-1]
        if len(stack) > (6 if b else 8) or not b and min(stack) < 0:
            return [-1]
        self.b, self.stack, self.flips = b, tuple(stack), 0
        return [0]

    def tally(self, b, n):
        return TALLIES.get((b, n), [-1])

    def worst(self, b, n):
        return WORSTS.get((b, n), [-1])

    def flip(self, k):
        if k > len(self.stack):
            return [-1]
        self.stack = reference.after_flip(self.b, self.stack, k)
        self.flips += 1
        return self.gaps()

    def look(self):
        return [self.flips, self.b] + list(self.stack)

    def gaps(self):
        return [reference.gaps(self.b, self.stack)]

    def fewest_row(self):
        return reference.first_row_by_distance(self.b, self.stack, DISTANCES[self.b, len(self.stack)])

    def fewest(self):
        row = self.fewest_row()
        return [len(row)] + row

    def usual(self):
        row = reference.usual_row(self.b, self.stack)
        return [len(row)] + row

    def try_row(self, row):
        if any(k > len(self.stack) for k in row):
            return [-1]
        stack = reference.after_row(self.b, self.stack, row)
        return [reference.gaps(self.b, stack)] + list(stack)

    def same(self, one, other):
        if any(k > len(self.stack) for k in one + other):
            return [-1]
        return [int(self.try_row(one) == self.try_row(other))]

    def round_of(self, row):
        if any(k > len(self.stack) for k in row):
            return [-1]
        return [reference.times_until_again(self.b, self.stack, row)]

    def hint(self):
        row = self.fewest_row()
        return [row[0], len(row) - 1] if row else [0]

    def answer(self, name, *given):
        if self.stack is None and name not in ("begin", "tally", "worst"):
            return [-9]
        return getattr(self, name)(*given)


CALLS = {
    "begin": begin, "flip": flip, "try_row": try_row, "same": same, "round_of": round_of, "tally": tally,
    "worst": worst, "look": lambda: LOOK, "gaps": lambda: GAPS, "fewest": lambda: FEWEST,
    "usual": lambda: USUAL, "hint": lambda: HINT}


def some_stack(chance):
    b = chance.choice((0, 1, 1, 0, 2))
    stack = list(range(1, chance.randint(1, 5) + 1))
    chance.shuffle(stack)
    if b or chance.random() < 0.1:
        stack = [size * chance.choice((1, -1)) for size in stack]
    if chance.random() < 0.1:
        stack.append(chance.randint(-20, 20))
    return b, stack if len(stack) < 6 else stack[:5]


def some_row(chance):
    most = chance.choice((1, 2, 3, 3, 4, 5, 20))
    return [chance.randint(0, most) for step in range(chance.choice((0, 1, 2, 3, 5, 60)))]


def some_call(chance):
    name = chance.choice(list(CALLS))
    if name == "begin":
        return (name,) + some_stack(chance)
    if name == "flip":
        return name, chance.choice((0, 1, 2, 3, 4, 5, 20))
    if name in ("try_row", "round_of"):
        return name, some_row(chance)
    if name == "same":
        return name, some_row(chance), some_row(chance)
    if name in ("tally", "worst"):
        return name, chance.choice((0, 0, 1, 1, 2, 9)), chance.randint(0, 9)
    return (name,)


class MixedLines(unittest.TestCase):
    def test_many_lines_of_calls_of_every_kind(self):
        chance = random.Random(8)
        for line in range(400):
            calls = [some_call(chance) for step in range(chance.choice((1, 10, 40)))]
            if line % 3:
                calls[0] = ("begin", 1, [2, -1, 3]) if line % 2 else ("begin", 0, [3, 1, 4, 2])
            retold = Retold()
            due = [retold.answer(*call) for call in calls]
            handed_in = [CALLS[call[0]](*call[1:]) for call in calls]
            self.assertEqual(ask(*handed_in), due, calls)
            self.assertEqual(ask(*handed_in), due, "the second time")

    def test_one_line_with_each_call(self):
        self.assertEqual(
            ask(tally(1, 1), LOOK, begin(0, [3, 1, 2]), HINT, try_row([3, 2]), same([3, 2], []), round_of([3, 2]),
                flip(3), FEWEST, HINT, USUAL, GAPS, worst(0, 2), flip(2), HINT, try_row([4]), LOOK,
                begin(1, [-1]), round_of([1]), same([0], [1, 1]), HINT, LOOK),
            [[1, 1], [-9], [0], [3, 1], [0, 1, 2, 3], [0], [3], [1], [1, 2], [2, 0], [1, 2], [1], [1, 2, 1],
             [0], [0], [-1], [2, 0, 1, 2, 3], [0], [2], [1], [1, 0], [0, 1, -1]])


class Quick(unittest.TestCase):
    def assert_quick(self, *calls):
        self.assertEqual(len(calls), 40)
        # The time this process itself has used, so that others beside it don't count.
        began = time.process_time()
        answered = ask(*calls)
        self.assertLess(time.process_time() - began, 8)
        return answered

    def test_tally_and_worst_of_the_greatest(self):
        for b, n in MOST.items():
            self.assertEqual(self.assert_quick(*[tally(b, n)] * 40), [TALLIES[b, n]] * 40)
            self.assertEqual(self.assert_quick(*[worst(b, n)] * 40), [WORSTS[b, n]] * 40)

    def test_fewest_and_hint_of_the_stacks_that_need_the_most(self):
        for b, stack in HARDEST:
            answered = self.assert_quick(begin(b, stack), *[FEWEST, HINT] * 19, FEWEST)
            row = answered[1][1:]
            self.assertEqual(answered[1:], [[len(row)] + row, [row[0], len(row) - 1]] * 19 + [[len(row)] + row])
            self.assertTrue(reference.is_sorted(reference.after_row(b, tuple(stack), row)))

    def test_the_longest_rows_done_the_most_often(self):
        row = [2, 3, 5, 8] * 14
        self.assert_quick(begin(0, [1, 2, 3, 4, 5, 6, 7, 8]), *[round_of(row), same(row, row), try_row(row)] * 13)


if __name__ == "__main__":
    unittest.main()
