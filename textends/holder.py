"""The holder of a text: it answers the calls, each with a list of whole numbers."""

from textends.order import neighbours_share, numbers_in_order, order_ends
from textends.pieces import end_with_new, pieces_before, run_behind
from textends.runs import best_runs
from textends.turning import text_back, turn_text

NONE_SUCH = -1
OUT_OF_RANGE = -2
NO_TEXT = -4
LONGEST = 65536


def ends_up_to(text, order, what, equal_too):
    """How many ends begin with less than what, or with just what if equal_too is True."""
    low = 0
    high = len(order)
    while low < high:
        middle = (low + high) // 2
        place = order[middle]
        beginning = text[place:place + len(what)]
        if beginning < what or (equal_too and beginning == what):
            low = middle + 1
        else:
            high = middle
    return low


def is_length(n):
    return 1 <= n and n <= LONGEST


class Holder:
    """An empty text stands for none, as at first; what is made of the text is read only where there is one."""

    def __init__(self):
        self.text = []
        self.order = []
        self.numbers = []
        self.shared = []
        self.best = []
        self.before = []

    def hold(self, n, text):
        if not is_length(n):
            return [OUT_OF_RANGE]
        self.text = list(text)
        self.order = order_ends(self.text)
        self.numbers = numbers_in_order(self.order)
        self.shared = neighbours_share(self.text, self.order, self.numbers)
        self.best = best_runs(self.shared)
        self.before = pieces_before(self.order, self.shared)
        return [0]

    def has_place(self, i):
        return 0 <= i and i < len(self.text)

    def at(self, k):
        if not self.text:
            return [NO_TEXT]
        if not self.has_place(k):
            return [OUT_OF_RANGE]
        return [self.order[k]]

    def find(self, length, what):
        if not is_length(length):
            return [OUT_OF_RANGE]
        if not self.text:
            return [NO_TEXT]
        first = ends_up_to(self.text, self.order, what, False)
        behind = ends_up_to(self.text, self.order, what, True)
        if first == behind:
            return [0]
        return [behind - first, first, behind - 1]

    def common(self, i, j):
        if not self.text:
            return [NO_TEXT]
        if not self.has_place(i) or not self.has_place(j):
            return [OUT_OF_RANGE]
        if i == j:
            return [len(self.text) - i]
        low = min(self.numbers[i], self.numbers[j])
        high = max(self.numbers[i], self.numbers[j])
        # Two ends share what all neighbours from the one to the other share.
        return [min(self.shared[low + 1:high + 1])]

    def twice(self, times):
        if times < 2 or times > LONGEST:
            return [OUT_OF_RANGE]
        if not self.text:
            return [NO_TEXT]
        if times > len(self.text):
            return [0]
        run = self.best[times]
        length = run[0]
        if length == 0:
            return [0]
        return [length, length, min(self.order[run[1]:run[1] + run[2]])]

    def pieces(self):
        if not self.text:
            return [NO_TEXT]
        return [0, self.before[-1]]

    def piece(self, k):
        if not self.text:
            return [NO_TEXT]
        if k >= self.before[-1]:
            return [NONE_SUCH]
        first = end_with_new(self.before, k)
        length = self.shared[first] + 1 + k - self.before[first]
        behind = run_behind(self.shared, first, length)
        return [0, min(self.order[first:behind]), length]

    def turn(self):
        if not self.text:
            return [NO_TEXT]
        return [self.numbers[0]] + turn_text(self.text, self.order)

    def back(self, n, first, turned):
        if not is_length(n) or first < 0 or first >= n:
            return [OUT_OF_RANGE]
        self.text = []
        text = text_back(turned, first)
        if len(text) < n:
            return [NONE_SUCH]
        return [0] + text
