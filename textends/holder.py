"""The holder of a text: it answers the calls, each with a list of whole numbers."""

from textends.order import neighbours_share, numbers_in_order, order_ends
from textends.runs import best_runs

OUT_OF_RANGE = -2
NO_TEXT = -4
LONGEST = 65536


def ends_up_to(text, order, what, equal_too):
    """How many ends begin with less than what, or with just what if equal_too is True."""
    low = 0
    high = len(order)
    while low < high:
        middle = (low + high) // 2
        place = order[middle]
        beginning = text[place:place + len(what)]
        if beginning < what or (equal_too and beginning == what):
            low = middle + 1
        else:
            high = middle
    return low


class Holder:
    """At first without a text: then the text and all that is made of it are empty."""

    def __init__(self):
        self.text = []
        self.order = []
        self.numbers = []
        self.shared = []
        self.best = []

    def hold(self, n, text):
        if n < 1 or n > LONGEST:
            return [OUT_OF_RANGE]
        self.text = list(text)
        self.order = order_ends(self.text)
        self.numbers = numbers_in_order(self.order)
        self.shared = neighbours_share(self.text, self.order, self.numbers)
        self.best = best_runs(self.shared)
        return [0]

    def has_place(self, i):
        return 0 <= i and i < len(self.text)

    def at(self, k):
        if not self.text:
            return [NO_TEXT]
        if not self.has_place(k):
            return [OUT_OF_RANGE]
        return [self.order[k]]

    def find(self, length, what):
        if length < 1 or length > LONGEST:
            return [OUT_OF_RANGE]
        if not self.text:
            return [NO_TEXT]
        first = ends_up_to(self.text, self.order, what, False)
        behind = ends_up_to(self.text, self.order, what, True)
        if first == behind:
            return [0]
        return [behind - first, first, behind - 1]

    def common(self, i, j):
        if not self.text:
            return [NO_TEXT]
        if not self.has_place(i) or not self.has_place(j):
            return [OUT_OF_RANGE]
        if i == j:
            return [len(self.text) - i]
        low = min(self.numbers[i], self.numbers[j])
        high = max(self.numbers[i], self.numbers[j])
        # Two ends share what all neighbours from the one to the other share.
        return [min(self.shared[low + 1:high + 1])]

    def twice(self, times):
        if times < 2 or times > LONGEST:
            return [OUT_OF_RANGE]
        if not self.text:
            return [NO_TEXT]
        if times > len(self.text):
            return [0]
        run = self.best[times]
        length = run[0]
        if length == 0:
            return [0]
        return [length, length, min(self.order[run[1]:run[1] + run[2]])]
