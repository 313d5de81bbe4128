"""Helps the tests: says calls, hands them in, and parts what is answered call by call."""

from panstack.turner import answers

LOOK = [2]
GAPS = [3]
FEWEST = [4]
USUAL = [5]
HINT = [11]


def begin(b, stack):
    return [0, b] + counted(stack)


def flip(k):
    return [1, k]


def counted(row):
    return [len(row)] + list(row)


def try_row(row):
    return [6] + counted(row)


def same(one, other):
    return [7] + counted(one) + counted(other)


def round_of(row):
    return [8] + counted(row)


def tally(b, n):
    return [9, b, n]


def worst(b, n):
    return [10, b, n]


def parted(told):
    parts = []
    place = 0
    while place < len(told):
        end = place + 1 + told[place]
        if end > len(told):
            raise AssertionError("an answer's count goes beyond the end")
        parts.append(told[place + 1:end])
        place = end
    return parts


def ask(*calls):
    """The answers to these calls, a list each."""
    handed_in = [number for call in calls for number in call]
    before = list(handed_in)
    told = answers(handed_in)
    if handed_in != before:
        raise AssertionError("what was handed in was changed")
    if type(told) is not list or any(type(number) is not int for number in told):
        raise AssertionError("not a list of whole numbers")
    parts = parted(told)
    if len(parts) != len(calls):
        raise AssertionError("as many answers as calls are due")
    return parts


def last(*calls):
    """The answer to the last of these calls."""
    return ask(*calls)[-1]
