"""Stacks told over again from the document's words, to hold the program against.

Nothing here is drawn from the program.
"""

import itertools


def all_stacks(b, n):
    signs = list(itertools.product((1, -1), repeat=n)) if b else [(1,) * n]
    for sizes in itertools.permutations(range(1, n + 1)):
        for sign in signs:
            yield tuple(size * side for size, side in zip(sizes, sign))


def after_flip(b, stack, k):
    top = stack[:k][::-1]
    if b:
        top = tuple(-size for size in top)
    return top + stack[k:]


def after_row(b, stack, row):
    for k in row:
        stack = after_flip(b, stack, k)
    return stack


def gaps(b, stack):
    whole = stack + (len(stack) + 1,)
    if b:
        return sum(lower != upper + 1 for upper, lower in zip(whole, whole[1:]))
    return sum(abs(lower - upper) != 1 for upper, lower in zip(whole, whole[1:]))


def is_sorted(stack):
    return list(stack) == list(range(1, len(stack) + 1))


def first_row_by_trying(b, stack):
    """Every row, the shorter ones first, and of one length in the order of the words."""
    for length in itertools.count():
        for row in itertools.product(range(len(stack) + 1), repeat=length):
            if is_sorted(after_row(b, stack, row)):
                return list(row)


def distances(b, n):
    """How many flips each stack of n needs, found from the sorted one outward."""
    start = tuple(range(1, n + 1))
    found = {start: 0}
    ahead = [start]
    for stack in ahead:
        for k in range(1, n + 1):
            other = after_flip(b, stack, k)
            if other not in found:
                found[other] = found[stack] + 1
                ahead.append(other)
    return found


def first_row_by_distance(b, stack, found):
    row = []
    while found[stack]:
        for k in range(1, len(stack) + 1):
            other = after_flip(b, stack, k)
            if found[other] < found[stack]:
                row.append(k)
                stack = other
                break
    return row


def usual_row(b, stack):
    """Goes by what is seen at each moment: where the size lies and which side is up."""
    row = []

    def turn(k):
        row.append(k)
        return after_flip(b, stack, k)

    for size in range(len(stack), 0, -1):
        if stack[size - 1] == size:
            continue
        if abs(stack[0]) != size:
            place = 1
            while abs(stack[place - 1]) != size:
                place += 1
            stack = turn(place)
        if b and stack[0] == size:
            stack = turn(1)
        stack = turn(size)
    return row


def flips_needed(b, stack):
    """Goes out from the stack, all flips at once, until the sorted one is among what is reached."""
    reached = {stack}
    flips = 0
    while not any(is_sorted(other) for other in reached):
        reached = {after_flip(b, other, k) for other in reached for k in range(len(other) + 1)}
        flips += 1
    return flips


def is_ahead(one, other):
    for size, beside in zip(one, other):
        if size != beside:
            return size < 0 if abs(size) == abs(beside) else abs(size) < abs(beside)
    return False


def tally(b, n):
    needs = [flips_needed(b, stack) for stack in all_stacks(b, n)]
    return [needs.count(flips) for flips in range(max(needs) + 1)]


def worst(b, n):
    most = -1
    first = None
    for stack in all_stacks(b, n):
        flips = flips_needed(b, stack)
        if flips > most or flips == most and is_ahead(stack, first):
            most = flips
            first = stack
    return [most] + list(first)


def times_until_again(b, stack, row):
    times = 1
    lying = after_row(b, stack, row)
    while lying != stack:
        lying = after_row(b, lying, row)
        times += 1
    return times
