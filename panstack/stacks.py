"""Stacks: lists of sizes from the top, below 0 where a burnt side is up."""

MOST_WITHOUT_SIDES = 8
MOST_WITH_SIDES = 6


def is_stack(sizes, sides_count):
    most = MOST_WITH_SIDES if sides_count else MOST_WITHOUT_SIDES
    if len(sizes) < 1 or len(sizes) > most:
        return False
    if not sides_count and min(sizes) < 0:
        return False
    return sorted([abs(size) for size in sizes]) == list(range(1, len(sizes) + 1))


def turned(size, sides_count):
    return -size if sides_count else size


def flipped(stack, k, sides_count):
    top = [turned(size, sides_count) for size in reversed(stack[:k])]
    return top + stack[k:]


def size_below(stack, k):
    # Below the whole stack lies the plate, which counts as the next size.
    return stack[k] if k < len(stack) else len(stack) + 1


def gap_between(upper, lower, sides_count):
    if sides_count:
        return 0 if lower == upper + 1 else 1
    return 0 if abs(lower - upper) == 1 else 1


def gap_count(stack, sides_count):
    gaps = 0
    for place, size in enumerate(stack, start=1):
        gaps += gap_between(size, size_below(stack, place), sides_count)
    return gaps


def gap_change(stack, k, sides_count):
    # Within the part that is turned over neighbours stay neighbours, and a gap
    # stays a gap: only what lies on the size below that part is another.
    lower = size_below(stack, k)
    before = gap_between(stack[k - 1], lower, sides_count)
    after = gap_between(turned(stack[0], sides_count), lower, sides_count)
    return after - before
