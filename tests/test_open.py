"""Point 1: open."""

import unittest

from plain import HIGHEST, LOWEST, at, common, find, opening, opening_refused, told, told_of, twice


class Open(unittest.TestCase):
    def test_a_text_is_taken(self):
        self.assertEqual(told(opening(b"banana")), [[0]])

    def test_one_byte(self):
        for byte in (0, 1, 127, 255):
            given = told(opening([byte]), at(0), at(1), find([byte]), common(0, 0), twice(2))
            self.assertEqual(given, [[0], [0], [-2], [1, 0, 0], [1], [0]])

    def test_the_longest_text(self):
        self.assertEqual(told(opening([7] * 29997)), [[0]])
        self.assertEqual(told(opening([place * place % 256 for place in range(29997)])), [[0]])
        self.assertEqual(told(opening([place * 7919 // 13 % 256 for place in range(29997)])), [[0]])

    def test_the_text_is_the_last_opened(self):
        given = told(opening(b"aaaa"), at(0), opening(b"ab"), at(0), at(2), opening(b"cba"), at(0), at(2))
        self.assertEqual(given, [[0], [3], [0], [0], [-2], [0], [2], [0]])

    def test_nothing_of_the_text_before_is_left(self):
        given = told(opening(b"abcabc"), opening(b"xy"), find(b"abc"), common(0, 5), twice(2), common(0, 1))
        self.assertEqual(given, [[0], [0], [0], [-2], [0], [0]])

    def test_n_out_of_range(self):
        for n in (LOWEST, -65536, -2, -1, 0, 65537, 65538, HIGHEST):
            self.assertEqual(told(opening_refused(n)), [[-2]], n)

    def test_a_refused_open_leaves_the_text(self):
        for n in (LOWEST, -1, 0, 65537, HIGHEST):
            given = told_of(b"abab", opening_refused(n), at(0), at(3), find(b"b"), common(0, 2), twice(2))
            self.assertEqual(given, [[-2], [2], [1], [2, 2, 3], [2], [2, 2, 0]], n)

    def test_a_refused_open_leaves_no_text(self):
        given = told(opening_refused(0), at(0), find(b"a"), common(0, 0), twice(2))
        self.assertEqual(given, [[-2], [-4], [-4], [-4], [-4]])


if __name__ == "__main__":
    unittest.main()
