"""Runs of ends, one behind another in order, that begin with the same piece.

A run is (length, first, count): how many bytes all its ends share, the number
in order of its first end, and how many ends it has.
"""

NO_RUN = (0, 0, 0)


def all_runs(shared):
    """Every run that can't be made longer in ends without sharing fewer bytes."""
    n = len(shared)
    runs = []
    waiting = []
    for k in range(1, n + 1):
        length = shared[k] if k < n else 0
        first = k - 1
        while waiting and waiting[-1][0] > length:
            over = waiting.pop()
            first = over[1]
            runs.append((over[0], first, k - first))
        if length > 0 and (not waiting or waiting[-1][0] < length):
            waiting.append((length, first))
    return runs


def better(run, other):
    """The run of the longer piece, of equally long ones that of the piece that is first in order."""
    if other[0] > run[0]:
        return other
    if other[0] == run[0] and other[1] < run[1]:
        return other
    return run


def best_runs(shared):
    """For each number, up to that of all ends, the best run of as many ends or more."""
    n = len(shared)
    best = [NO_RUN] * (n + 1)
    for run in all_runs(shared):
        best[run[2]] = better(best[run[2]], run)
    for count in range(n - 1, -1, -1):
        best[count] = better(best[count], best[count + 1])
    return best
