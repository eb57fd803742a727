"""What the tests share: calls written down, answers taken apart, and answers
got the plain way, straight from what the words mean."""

import functools
import itertools

from textends.ends import answers

LOWEST = -2147483648
HIGHEST = 2147483647
HIGHEST_K = 4294967295


class Unchangeable(list):
    """A list that fails as soon as somebody changes it, if only for a while."""

    def refuse(self, *args, **kwargs):
        raise AssertionError("the list handed in was changed")

    __setitem__ = __delitem__ = __iadd__ = __imul__ = refuse
    append = extend = insert = pop = remove = clear = sort = reverse = refuse


def opening(text):
    return [1, len(text), len(text), *text]


def opening_refused(n):
    return [1, n, 0]


def at(k):
    return [2, k]


def find(what):
    return [3, len(what), len(what), *what]


def find_refused(length):
    return [3, length, 0]


def common(i, j):
    return [4, i, j]


def twice(times):
    return [5, times]


def pieces():
    return [6]


def piece(k):
    return [7, k]


def turn():
    return [8]


def back(first, turned):
    return [9, len(turned), first, len(turned), *turned]


def back_refused(n, first):
    return [9, n, first, 0]


def joined(*calls):
    return [number for call in calls for number in call]


def told(*calls):
    """The answer of each call, as a list of lists."""
    handed_in = Unchangeable(joined(*calls))
    assert len(calls) <= 400 and len(handed_in) <= 30000, "more than may be handed in"
    numbers = answers(handed_in)
    apart = []
    begin = 0
    while begin < len(numbers):
        behind = begin + 1 + numbers[begin]
        apart.append(numbers[begin + 1:behind])
        begin = behind
    assert begin == len(numbers), "an answer is cut off"
    assert len(apart) == len(calls), "an answer is missing"
    assert all(type(number) is int for number in numbers)
    return apart


def told_of(text, *calls):
    """The answers of the calls behind an open of the text."""
    given = told(opening(text), *calls)
    assert given[0] == [0], given[0]
    return given[1:]


def pairs_once(n):
    """A text of n bytes, up to 30276, in which each two bytes side by side come once: it has very many pieces."""
    signs = list(range(87)) + list(range(169, 256))
    text = []
    for low in range(len(signs)):
        text.append(signs[low])
        for high in range(low + 1, len(signs)):
            text.extend([signs[low], signs[high]])
    return text[:n]


def order_of_pairs_once(text):
    """The ends' places in order: there two bytes tell the ends apart."""
    return sorted(range(len(text)), key=lambda place: text[place:place + 2])


def plain_order(text):
    return sorted(range(len(text)), key=lambda place: list(text[place:]))


def plain_ats(text, ks):
    """The answer of at for each of ks."""
    order = plain_order(text)
    return [[order[k]] if 0 <= k < len(text) else [-2] for k in ks]


def plain_find(text, what):
    order = plain_order(text)
    numbers = [k for k, place in enumerate(order) if list(text[place:place + len(what)]) == list(what)]
    return [len(numbers), numbers[0], numbers[-1]] if numbers else [0]


def plain_common(text, i, j):
    if not (0 <= i < len(text) and 0 <= j < len(text)):
        return [-2]
    count = 0
    while max(i, j) + count < len(text) and text[i + count] == text[j + count]:
        count += 1
    return [count]


def plain_twice(text, times):
    for length in range(len(text), 0, -1):
        places = {}
        for place in range(len(text) - length + 1):
            places.setdefault(tuple(text[place:place + length]), []).append(place)
        often = [piece for piece in places if len(places[piece]) >= times]
        if often:
            return [length, length, places[min(often)][0]]
    return [0]


def all_pieces(text):
    """All different pieces in order, each as (the piece, the first place where it comes)."""
    places = {}
    for place in range(len(text)):
        for behind in range(place + 1, len(text) + 1):
            places.setdefault(tuple(text[place:behind]), place)
    return [(row, places[row]) for row in sorted(places)]


def plain_pieces(text):
    return [0, len(all_pieces(text))]


def plain_piece(text, k):
    every = all_pieces(text)
    return [0, every[k][1], len(every[k][0])] if k < len(every) else [-1]


def plain_turn(text):
    order = plain_order(text)
    return [order.index(0)] + [text[place - 1] if place > 0 else text[len(text) - 1] for place in order]


@functools.lru_cache(maxsize=None)
def texts_by_turn(signs):
    """Of all texts of these signs, each as often as it's there, by what turn tells of them."""
    return {tuple(plain_turn(text)): text for text in set(itertools.permutations(signs))}


def plain_back(first, turned):
    """For short rows alone: all texts of these bytes are gone through."""
    text = texts_by_turn(tuple(sorted(turned))).get((first, *turned))
    return [-1] if text is None else [0, *text]


class PlainHolder:
    """Answers the calls as they are written down, the plain way."""

    def __init__(self):
        self.text = None

    def answer(self, call):
        number, arguments = call[0], call[1:]
        if number == 1:
            if not 1 <= arguments[0] <= 65536:
                return [-2]
            self.text = arguments[2:]
            return [0]
        if number == 9:
            if not (1 <= arguments[0] <= 65536 and 0 <= arguments[1] < arguments[0]):
                return [-2]
            self.text = None
            return plain_back(arguments[1], arguments[3:])
        if number == 3 and not 1 <= arguments[0] <= 65536:
            return [-2]
        if number == 5 and not 2 <= arguments[0] <= 65536:
            return [-2]
        return [-4] if self.text is None else self.answer_of_text(number, arguments)

    def answer_of_text(self, number, arguments):
        if number == 2:
            return plain_ats(self.text, arguments)[0]
        if number == 3:
            return plain_find(self.text, arguments[2:])
        plain = {4: plain_common, 5: plain_twice, 6: plain_pieces, 7: plain_piece, 8: plain_turn}
        return plain[number](self.text, *arguments)
