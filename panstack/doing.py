"""What a row of flips does to a stack."""

from panstack.stacks import flipped


def can_be_done(stack, row):
    return max(row, default=0) <= len(stack)


def after_row(stack, row, sides_count):
    for k in row:
        stack = flipped(stack, k, sides_count)
    return stack


def times_until_again(stack, row, sides_count, most_times):
    # None where the stack doesn't lie again as it did within that many times.
    lying = stack
    for times in range(1, most_times + 1):
        lying = after_row(lying, row, sides_count)
        if lying == stack:
            return times
    return None
