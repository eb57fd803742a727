"""What the tests share: calls written down, answers taken apart, and answers
got the plain way, straight from what the words mean."""

from textends.ends import answers

LOWEST = -2147483648
HIGHEST = 2147483647


class Unchangeable(list):
    """A list that fails as soon as somebody changes it, if only for a while."""

    def refuse(self, *args, **kwargs):
        raise AssertionError("the list handed in was changed")

    __setitem__ = __delitem__ = __iadd__ = __imul__ = refuse
    append = extend = insert = pop = remove = clear = sort = reverse = refuse


def opening(text):
    return [1, len(text), len(text), *text]


def opening_refused(n):
    return [1, n, 0]


def at(k):
    return [2, k]


def find(what):
    return [3, len(what), len(what), *what]


def find_refused(length):
    return [3, length, 0]


def common(i, j):
    return [4, i, j]


def twice(times):
    return [5, times]


def joined(*calls):
    return [number for call in calls for number in call]


def told(*calls):
    """The answer of each call, as a list of lists."""
    numbers = answers(Unchangeable(joined(*calls)))
    apart = []
    begin = 0
    while begin < len(numbers):
        behind = begin + 1 + numbers[begin]
        apart.append(numbers[begin + 1:behind])
        begin = behind
    assert begin == len(numbers), "an answer is cut off"
    assert all(type(number) is int for number in numbers)
    return apart


def told_of(text, *calls):
    """The answers of the calls behind an open of the text."""
    given = told(opening(text), *calls)
    assert given[0] == [0], given[0]
    return given[1:]


def plain_order(text):
    return sorted(range(len(text)), key=lambda place: list(text[place:]))


def plain_ats(text, ks):
    """The answer of at for each of ks."""
    order = plain_order(text)
    return [[order[k]] if 0 <= k < len(text) else [-2] for k in ks]


def plain_find(text, what):
    order = plain_order(text)
    numbers = [k for k, place in enumerate(order) if list(text[place:place + len(what)]) == list(what)]
    return [len(numbers), numbers[0], numbers[-1]] if numbers else [0]


def plain_common(text, i, j):
    if not (0 <= i < len(text) and 0 <= j < len(text)):
        return [-2]
    count = 0
    while max(i, j) + count < len(text) and text[i + count] == text[j + count]:
        count += 1
    return [count]


def plain_twice(text, times):
    for length in range(len(text), 0, -1):
        places = {}
        for place in range(len(text) - length + 1):
            places.setdefault(tuple(text[place:place + length]), []).append(place)
        often = [piece for piece in places if len(places[piece]) >= times]
        if often:
            return [length, length, places[min(often)][0]]
    return [0]
