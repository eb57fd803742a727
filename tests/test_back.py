"""Point 8: back, and that there is no text behind it."""

import itertools
import unittest

from plain import (HIGHEST, HIGHEST_K, LOWEST, at, back, back_refused, common, find, find_refused, opening,
                   opening_refused, piece, pieces, plain_back, told, told_of, turn, twice)

# n and first of which one at least is out of its range.
REFUSED = ((LOWEST, 0), (-65536, 0), (-1, 0), (-1, -1), (-1, -2), (0, 0), (0, -1), (0, 1), (65537, 0), (65537, 65536),
           (HIGHEST, 0), (HIGHEST, HIGHEST), (LOWEST, LOWEST), (1, -1), (1, 1), (2, 2), (2, -1), (6, -1), (6, 6),
           (6, 7), (6, LOWEST), (6, HIGHEST), (65535, 65535), (65536, -1), (65536, 65536), (65536, 65537),
           (65536, LOWEST), (65536, HIGHEST))

# What is asked behind back, and what is answered where there is no text.
ASKED = (at(0), at(-1), at(6), find(b"a"), find_refused(0), common(0, 0), common(-1, 6), twice(2), twice(1),
         pieces(), piece(0), piece(HIGHEST_K), turn())
WITHOUT = [[-4], [-4], [-4], [-4], [-2], [-4], [-4], [-4], [-2], [-4], [-4], [-4], [-4]]
OF_BANANA = [[5], [-2], [-2], [3, 0, 2], [-2], [6], [-2], [3, 3, 1], [-2],
             [0, 15], [0, 1, 1], [-1], [3, *b"nnbaaa"]]


class Back(unittest.TestCase):
    def test_ordinary_texts(self):
        self.assertEqual(told(back(3, b"nnbaaa")), [[0, *b"banana"]])
        self.assertEqual(told(back(4, b"pssmipissii")), [[0, *b"mississippi"]])
        self.assertEqual(told(back(0, b"cab"), back(1, b"bca"), back(2, b"bca")),
                         [[0, *b"abc"], [0, *b"bac"], [0, *b"cba"]])

    def test_one_byte(self):
        for byte in (0, 97, 255):
            self.assertEqual(told(back(0, [byte])), [[0, byte]])

    def test_what_turn_told_gives_the_text_again(self):
        texts = [b"banana", b"mississippi", b"abab" * 20, [0, 255] * 9, [255, 0] * 9 + [255], [0] * 40, [255] * 40,
                 list(range(256)), list(range(255, -1, -1)), [place * 77 % 256 for place in range(256)],
                 [place * place % 251 for place in range(2000)]]
        for text in texts:
            [told_first, *turned], = told_of(text, turn())
            self.assertEqual(told(back(told_first, turned)), [[0, *text]])

    def test_bytes_and_a_first_that_no_text_has(self):
        self.assertEqual(told(back(0, b"aa")), [[-1]])
        # The byte that is first in order would stand before itself, and so on.
        self.assertEqual(told(back(0, b"ab"), back(1, b"ab")), [[-1], [-1]])
        self.assertEqual(told(back(0, b"abc"), back(1, b"abc"), back(2, b"abc")), [[-1], [-1], [-1]])
        self.assertEqual(told(back(0, [0, 255]), back(1, [0, 255])), [[-1], [-1]])

    def test_a_first_that_is_not_turns(self):
        for text, first, turned in ((b"banana", 3, b"nnbaaa"), (b"abcab", 1, b"cbaab"), (b"bac", 1, b"bca")):
            self.assertEqual(told_of(text, turn()), [[first, *turned]])
            given = told(*[back(other, turned) for other in range(len(text))])
            self.assertEqual(given, [plain_back(other, turned) for other in range(len(text))])
            for other in range(len(text)):
                self.assertEqual(given[other] == [0, *text], other == first)
        self.assertEqual(told(*[back(other, b"nnbaaa") for other in (0, 1, 2, 4, 5)]),
                         [[0, *b"abanan"], [-1], [0, *b"ananab"], [-1], [0, *b"nabana"]])
        self.assertEqual(told(back(0, b"bca"), back(1, b"bca"), back(2, b"bca")),
                         [[0, *b"acb"], [0, *b"bac"], [0, *b"cba"]])

    def test_one_byte_over_and_over_with_each_first(self):
        for byte in (0, 97, 255):
            for n in (1, 2, 3, 60):
                given = told(*[back(first, [byte] * n) for first in range(n)])
                self.assertEqual(given, [[-1]] * (n - 1) + [[0] + [byte] * n])

    def test_all_orders_of_a_few_bytes(self):
        for signs in ((0, 0, 1, 255), (1, 2, 3, 4), (0, 0, 0, 255, 255), (5, 5, 6, 7, 7, 7)):
            asked = [(first, row) for row in sorted(set(itertools.permutations(signs))) for first in range(len(row))]
            for first, row in asked:
                self.assertEqual(told(back(first, row)), [plain_back(first, row)], (first, row))

    def test_n_and_first_out_of_range(self):
        for n, first in REFUSED:
            self.assertEqual(told(back_refused(n, first)), [[-2]], (n, first))
            self.assertEqual(told_of(b"banana", back_refused(n, first)), [[-2]], (n, first))

    def test_first_at_its_range(self):
        self.assertEqual(told(back(0, b"dabc"), back(3, b"bcda")), [[0, *b"abcd"], [0, *b"dcba"]])

    def test_the_longest_turned(self):
        n = 29996
        texts = ([7] * n, [0, 255] * (n // 2), [place * 7919 // 13 % 256 for place in range(n)],
                 [place * place % 256 for place in range(n)])
        for text in texts:
            [first, *turned], = told_of(text, turn())
            self.assertEqual(told(back(first, turned)), [[0, *text]])

    def test_the_longest_turned_that_no_text_has(self):
        n = 29996
        for first in (0, 1, n // 2, n - 2):
            self.assertEqual(told(back(first, [7] * n)), [[-1]], first)
        self.assertEqual(told(back(0, [place % 256 for place in range(n)])), [[-1]])


class BehindBack(unittest.TestCase):
    def test_there_is_no_text_behind_0(self):
        self.assertEqual(told_of(b"banana", back(3, b"nnbaaa"), *ASKED), [[0, *b"banana"]] + WITHOUT)
        self.assertEqual(told(back(0, b"a"), *ASKED), [[0, *b"a"]] + WITHOUT)

    def test_there_is_no_text_behind_minus_1(self):
        self.assertEqual(told_of(b"banana", back(0, b"aa"), *ASKED), [[-1]] + WITHOUT)
        self.assertEqual(told(back(0, b"aa"), *ASKED), [[-1]] + WITHOUT)

    def test_the_text_is_as_it_was_behind_minus_2(self):
        for n, first in REFUSED:
            self.assertEqual(told_of(b"banana", back_refused(n, first), *ASKED), [[-2]] + OF_BANANA, (n, first))
            self.assertEqual(told(back_refused(n, first), *ASKED), [[-2]] + WITHOUT, (n, first))

    def test_refusals_behind_back_leave_no_text(self):
        given = told_of(b"banana", back(3, b"nnbaaa"), opening_refused(0), back_refused(0, 0), *ASKED)
        self.assertEqual(given, [[0, *b"banana"], [-2], [-2]] + WITHOUT)

    def test_an_open_behind_back(self):
        for turned in (b"aa", b"ba"):
            given = told_of(b"xyz", back(0, turned), opening(b"banana"), *ASKED)
            self.assertEqual(given[1:], [[0]] + OF_BANANA)

    def test_back_behind_back(self):
        given = told_of(b"xyz", back(0, b"cab"), back(0, b"aa"), back(3, b"nnbaaa"), turn())
        self.assertEqual(given, [[0, *b"abc"], [-1], [0, *b"banana"], [-4]])


if __name__ == "__main__":
    unittest.main()
