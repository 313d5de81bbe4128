"""The calls on one stack, and what they answer.

An answer is a list of whole numbers. A refusal is a list of its number alone:
-9 without a stack, -1 for what can't be done with what is handed in, -6 for a
row that has to be done too often.
"""

from panstack.census import first_of, is_counted, layers_of
from panstack.doing import after_row, can_be_done, times_until_again
from panstack.reader import Reader
from panstack.rows import fewest_row, usual_row
from panstack.stacks import flipped, gap_count, is_stack

MOST_TIMES = 100

BEGIN = 0
FLIP = 1
LOOK = 2
GAPS = 3
FEWEST = 4
USUAL = 5
TRY_ROW = 6
SAME = 7
ROUND_OF = 8
TALLY = 9
WORST = 10


class Turner:
    def __init__(self):
        self.stack = None
        self.sides_count = False
        self.turns = 0

    def begin(self, b, stack):
        if b > 1 or not is_stack(stack, b == 1):
            return [-1]
        self.stack = list(stack)
        self.sides_count = b == 1
        self.turns = 0
        return [0]

    def flip(self, k):
        if k > len(self.stack):
            return [-1]
        self.stack = flipped(self.stack, k, self.sides_count)
        self.turns += 1
        return self.gaps()

    def look(self):
        return [self.turns, 1 if self.sides_count else 0] + self.stack

    def gaps(self):
        return [gap_count(self.stack, self.sides_count)]

    def fewest(self):
        return flips_told(fewest_row(self.stack, self.sides_count))

    def usual(self):
        return flips_told(usual_row(self.stack, self.sides_count))

    def try_row(self, row):
        if not can_be_done(self.stack, row):
            return [-1]
        stack = after_row(self.stack, row, self.sides_count)
        return [gap_count(stack, self.sides_count)] + stack

    def same(self, one, other):
        if not can_be_done(self.stack, one) or not can_be_done(self.stack, other):
            return [-1]
        behind_one = after_row(self.stack, one, self.sides_count)
        behind_other = after_row(self.stack, other, self.sides_count)
        return [1 if behind_one == behind_other else 0]

    def round_of(self, row):
        if not can_be_done(self.stack, row):
            return [-1]
        times = times_until_again(self.stack, row, self.sides_count, MOST_TIMES)
        return [-6] if times is None else [times]

    def hint(self):
        row = fewest_row(self.stack, self.sides_count)
        return [0] if row == [] else [row[0], len(row) - 1]


def flips_told(row):
    return [len(row)] + row


def tally(b, n):
    if not is_counted(b, n):
        return [-1]
    return [len(layer) for layer in layers_of(n, b == 1)]


def worst(b, n):
    if not is_counted(b, n):
        return [-1]
    layers = layers_of(n, b == 1)
    return [len(layers) - 1] + first_of(layers[-1])


def answer_call(turner, call):
    number = call[0]
    if number == BEGIN:
        return turner.begin(call[1], call[2])
    if number == TALLY:
        return tally(call[1], call[2])
    if number == WORST:
        return worst(call[1], call[2])
    if turner.stack is None:
        return [-9]
    return answer_of_stack(turner, call)


def answer_of_stack(turner, call):
    number = call[0]
    if number == FLIP:
        return turner.flip(call[1])
    if number == LOOK:
        return turner.look()
    if number == GAPS:
        return turner.gaps()
    if number == FEWEST:
        return turner.fewest()
    if number == USUAL:
        return turner.usual()
    if number == TRY_ROW:
        return turner.try_row(call[1])
    if number == SAME:
        return turner.same(call[1], call[2])
    if number == ROUND_OF:
        return turner.round_of(call[1])
    return turner.hint()


def answers(calls):
    reader = Reader(calls)
    turner = Turner()
    told = []
    while reader.has_more():
        answer = answer_call(turner, reader.take_call())
        told.append(len(answer))
        told.extend(answer)
    return told
