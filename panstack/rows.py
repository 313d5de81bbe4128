"""Rows of flips that sort a stack."""

from panstack.stacks import flipped, gap_change, gap_count


def fewest_row(stack, sides_count):
    gaps = gap_count(stack, sides_count)
    # A flip closes one gap at the most, so no row is shorter than the gaps are many.
    length = gaps
    row = row_within(stack, sides_count, gaps, length, 0)
    while row is None:
        length += 1
        row = row_within(stack, sides_count, gaps, length, 0)
    return row


def row_within(stack, sides_count, gaps, length, flip_before):
    # Lengths are tried upward and flips from the least, so the first row found
    # is one of the shortest and, of these, the one that is told first.
    if gaps == 0:
        return []
    for k in range(least_flip(sides_count), len(stack) + 1):
        gaps_left = gaps + gap_change(stack, k, sides_count)
        # A flip done twice is none, so no shortest row has one twice on end.
        if gaps_left < length and k != flip_before:
            rest = row_within(flipped(stack, k, sides_count), sides_count, gaps_left, length - 1, k)
            if rest is not None:
                return [k] + rest
    return None


def least_flip(sides_count):
    # A flip of 1 does something only where it turns a side.
    return 1 if sides_count else 2


def usual_row(stack, sides_count):
    row = []
    for size in range(len(stack), 0, -1):
        flips = flips_to_its_place(stack, size, sides_count)
        for k in flips:
            stack = flipped(stack, k, sides_count)
            row.append(k)
    return row


def flips_to_its_place(stack, size, sides_count):
    if stack[size - 1] == size:
        return []
    flips = []
    place = [abs(other) for other in stack].index(size) + 1
    if place > 1:
        flips.append(place)
        stack = flipped(stack, place, sides_count)
    # The last flip turns the size once more, so its burnt side is to be up before it.
    if sides_count and stack[0] > 0:
        flips.append(1)
    return flips + [size]
