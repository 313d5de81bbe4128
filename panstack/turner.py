"""The calls on one stack, and what they answer.

An answer is a list of whole numbers. A refusal is a list of its number alone:
-9 without a stack, -1 for what can't be done with what is handed in.
"""

from panstack.reader import Reader
from panstack.rows import fewest_row, usual_row
from panstack.stacks import flipped, gap_count, is_stack

BEGIN = 0
FLIP = 1
LOOK = 2
GAPS = 3
FEWEST = 4


class Turner:
    def __init__(self):
        self.stack = None
        self.sides_count = False
        self.turns = 0

    def begin(self, b, stack):
        if b > 1 or not is_stack(stack, b == 1):
            return [-1]
        self.stack = list(stack)
        self.sides_count = b == 1
        self.turns = 0
        return [0]

    def flip(self, k):
        if k > len(self.stack):
            return [-1]
        self.stack = flipped(self.stack, k, self.sides_count)
        self.turns += 1
        return self.gaps()

    def look(self):
        return [self.turns, 1 if self.sides_count else 0] + self.stack

    def gaps(self):
        return [gap_count(self.stack, self.sides_count)]

    def fewest(self):
        return flips_told(fewest_row(self.stack, self.sides_count))

    def usual(self):
        return flips_told(usual_row(self.stack, self.sides_count))


def flips_told(row):
    return [len(row)] + row


def answer_call(turner, call):
    number = call[0]
    if number == BEGIN:
        return turner.begin(call[1], call[2])
    if turner.stack is None:
        return [-9]
    if number == FLIP:
        return turner.flip(call[1])
    if number == LOOK:
        return turner.look()
    if number == GAPS:
        return turner.gaps()
    if number == FEWEST:
        return turner.fewest()
    return turner.usual()


def answers(calls):
    reader = Reader(calls)
    turner = Turner()
    told = []
    while reader.has_more():
        answer = answer_call(turner, reader.take_call())
        told.append(len(answer))
        told.extend(answer)
    return told
