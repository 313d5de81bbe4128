"""All stacks of one size, by how many flips each needs."""

from panstack.rows import least_flip
from panstack.stacks import flipped

MOST_COUNTED_WITHOUT_SIDES = 5
MOST_COUNTED_WITH_SIDES = 3


def is_counted(b, n):
    most = MOST_COUNTED_WITH_SIDES if b == 1 else MOST_COUNTED_WITHOUT_SIDES
    return b <= 1 and n >= 1 and n <= most


def layers_of(n, sides_count):
    # A flip done twice is none, so a stack needs as many flips as lead to it from the sorted one.
    layer = [list(range(1, n + 1))]
    seen = {tuple(layer[0]): True}
    layers = []
    while layer != []:
        layers.append(layer)
        layer = unseen_behind(layer, sides_count, seen)
    return layers


def unseen_behind(layer, sides_count, seen):
    unseen = []
    for stack in layer:
        for k in range(least_flip(sides_count), len(stack) + 1):
            other = flipped(stack, k, sides_count)
            if tuple(other) not in seen:
                seen[tuple(other)] = True
                unseen.append(other)
    return unseen


def first_of(stacks):
    return min(stacks, key=standing)


def standing(stack):
    # The size decides whichever side is up; of one size the burnt side, which is below 0, is ahead.
    return [(abs(size), size) for size in stack]
