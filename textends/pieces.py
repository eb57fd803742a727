"""The different pieces of a text, in order.

An end begins first with what it shares with the end before it in order, then,
each a byte longer, with pieces that no end before it begins with: its new ones.
So all different pieces in order are the new ones of each end, end by end.
"""


def pieces_before(order, shared):
    """For each end in order how many pieces are new in the ends before it; at last how many there are in all."""
    n = len(order)
    before = [0]
    for k in range(n):
        before.append(before[k] + n - order[k] - shared[k])
    return before


def end_with_new(before, k):
    """The number in order of the end in which the piece with k pieces before it is new."""
    low = 0
    high = len(before) - 1
    while high - low > 1:
        middle = (low + high) // 2
        if before[middle] <= k:
            low = middle
        else:
            high = middle
    return low


def run_behind(shared, first, length):
    """The number in order behind the last end that begins with the same bytes, as many as length, as the first."""
    for k in range(first + 1, len(shared)):
        if shared[k] < length:
            return k
    return len(shared)
