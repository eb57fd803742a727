"""Point 5: twice."""

import unittest

from plain import HIGHEST, LOWEST, told_of, twice


class Twice(unittest.TestCase):
    def test_ordinary_text(self):
        self.assertEqual(told_of(b"banana", twice(2), twice(3), twice(4)), [[3, 3, 1], [1, 1, 1], [0]])
        self.assertEqual(told_of(b"mississippi", twice(2), twice(3), twice(4), twice(5)),
                         [[4, 4, 1], [1, 1, 1], [1, 1, 1], [0]])

    def test_nothing_comes_as_often(self):
        self.assertEqual(told_of(b"abcdef", twice(2), twice(65536)), [[0], [0]])
        self.assertEqual(told_of(list(range(256)), twice(2), twice(256), twice(257)), [[0], [0], [0]])
        self.assertEqual(told_of([0], twice(2)), [[0]])

    def test_one_byte_over_and_over(self):
        for byte in (0, 255):
            given = told_of([byte] * 20, *[twice(times) for times in range(2, 23)])
            wanted = [[21 - times, 21 - times, 0] for times in range(2, 21)]
            self.assertEqual(given, wanted + [[0], [0]])

    def test_places_may_overlap(self):
        self.assertEqual(told_of(b"xabababa", twice(2), twice(3), twice(4)), [[5, 5, 1], [3, 3, 1], [1, 1, 1]])

    def test_of_equally_long_pieces_the_first_in_order(self):
        self.assertEqual(told_of(b"zy1ab2ab3zy", twice(2)), [[2, 2, 3]])
        self.assertEqual(told_of(b"ab1zy2zy3ab", twice(2)), [[2, 2, 0]])
        self.assertEqual(told_of([255, 1, 0, 2, 255, 3, 0], twice(2)), [[1, 1, 2]])

    def test_of_its_places_the_first_in_the_text(self):
        self.assertEqual(told_of(b"zy1ab9ab2ab5zy", twice(2), twice(3)), [[2, 2, 3], [2, 2, 3]])
        self.assertEqual(told_of(b"ab9ab1", twice(2)), [[2, 2, 0]])

    def test_more_places_than_asked_are_no_better_and_no_worse(self):
        more_first = b"ab1ab2ab3ab4cd5cd6cd7"
        fewer_first = b"cd1cd2cd3cd4ab5ab6ab7"
        self.assertEqual(told_of(more_first, twice(2), twice(3), twice(4), twice(5)),
                         [[2, 2, 0], [2, 2, 0], [2, 2, 0], [0]])
        self.assertEqual(told_of(fewer_first, twice(2), twice(3), twice(4), twice(5)),
                         [[2, 2, 12], [2, 2, 12], [2, 2, 0], [0]])

    def test_a_longer_piece_of_fewer_places_is_passed_over(self):
        text = b"qrstu1qrstu2ab3ab4ab5"
        self.assertEqual(told_of(text, twice(2), twice(3), twice(4)), [[5, 5, 0], [2, 2, 12], [0]])

    def test_times_at_and_just_outside_its_range(self):
        given = told_of(b"aaaa", twice(1), twice(2), twice(4), twice(5), twice(65536), twice(65537))
        self.assertEqual(given, [[-2], [3, 3, 0], [1, 1, 0], [0], [0], [-2]])

    def test_times_far_outside(self):
        given = told_of(b"aaaa", twice(LOWEST), twice(-65536), twice(-2), twice(-1), twice(0), twice(HIGHEST))
        self.assertEqual(given, [[-2]] * 6)

    def test_long_texts_and_many_calls(self):
        n = 29000
        asked = list(range(2, 400)) + [n]
        given = told_of([3] * n, *[twice(times) for times in asked])
        self.assertEqual(given, [[n + 1 - times, n + 1 - times, 0] for times in asked])
        half = [place * place // 7 % 251 for place in range(14000)]
        self.assertEqual(told_of([252] + half + [253] + half + [254], twice(2)), [[14000, 14000, 1]])


if __name__ == "__main__":
    unittest.main()
