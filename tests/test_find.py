"""Point 3: find."""

import unittest

from plain import HIGHEST, LOWEST, find, find_refused, told_of


class Find(unittest.TestCase):
    def test_how_many_then_first_and_last(self):
        given = told_of(b"banana", find(b"a"), find(b"an"), find(b"ana"), find(b"n"), find(b"nan"), find(b"b"))
        self.assertEqual(given, [[3, 0, 2], [2, 1, 2], [2, 1, 2], [2, 4, 5], [1, 5, 5], [1, 3, 3]])

    def test_the_whole_text(self):
        self.assertEqual(told_of(b"banana", find(b"banana")), [[1, 3, 3]])
        self.assertEqual(told_of([0], find([0])), [[1, 0, 0]])

    def test_what_does_not_stand_there(self):
        absent = (b"c", b"A", b"z", b"aa", b"nn", b"bananb", b"anb", b"ab", [0], [255], [97, 0], [97, 255])
        for what in absent:
            self.assertEqual(told_of(b"banana", find(what)), [[0]], what)

    def test_what_goes_on_beyond_the_last_byte(self):
        self.assertEqual(told_of(b"banana", find(b"anan"), find(b"anana"), find(b"ananan")), [[1, 2, 2], [1, 2, 2], [0]])
        self.assertEqual(told_of([1, 0], find([0]), find([0, 0]), find([1, 0, 0])), [[1, 0, 0], [0], [0]])

    def test_longer_than_the_text(self):
        self.assertEqual(told_of(b"banana", find(b"bananas"), find(b"banana" * 50)), [[0], [0]])
        self.assertEqual(told_of(b"a", find(b"aa"), find(b"a" * 29000)), [[0], [0]])

    def test_bytes_0_and_255(self):
        text = [0, 255, 0, 0, 255, 255]
        given = told_of(text, find([0]), find([255]), find([0, 255]), find([255, 255]), find([255, 0]), find([0, 0]))
        self.assertEqual(given, [[3, 0, 2], [3, 3, 5], [2, 1, 2], [1, 5, 5], [1, 4, 4], [1, 0, 0]])

    def test_one_byte_over_and_over(self):
        given = told_of([4] * 50, *[find([4] * length) for length in range(1, 52)], find([3]), find([5]), find([4, 5]))
        wanted = [[51 - length, length - 1, 49] for length in range(1, 51)]
        self.assertEqual(given, wanted + [[0], [0], [0], [0]])

    def test_len_out_of_range(self):
        for length in (LOWEST, -65536, -1, 0, 65537, HIGHEST):
            self.assertEqual(told_of(b"banana", find_refused(length), find(b"an")), [[-2], [2, 1, 2]], length)

    def test_long_text(self):
        text = [place % 250 for place in range(14900)]
        given = told_of(text, find(text), find([0]), find([249, 0]), find([150]), find([250]))
        self.assertEqual(given, [[1, 59, 59], [60, 0, 59], [59, 14841, 14899], [59, 9000, 9058], [0]])


if __name__ == "__main__":
    unittest.main()
