"""Point 7: turn."""

import unittest

from plain import at, opening, pieces, told, told_of, turn


class Turn(unittest.TestCase):
    def test_ordinary_texts(self):
        self.assertEqual(told_of(b"banana", turn()), [[3, *b"nnbaaa"]])
        self.assertEqual(told_of(b"mississippi", turn()), [[4, *b"pssmipissii"]])

    def test_one_byte(self):
        for byte in (0, 97, 255):
            self.assertEqual(told_of([byte], turn()), [[0, byte]])

    def test_the_end_at_0_first_in_the_middle_and_last(self):
        self.assertEqual(told_of(b"abc", turn()), [[0, *b"cab"]])
        self.assertEqual(told_of(b"bac", turn()), [[1, *b"bca"]])
        self.assertEqual(told_of(b"cba", turn()), [[2, *b"bca"]])

    def test_ends_are_in_order_as_they_are_not_going_round(self):
        # The end at 2 is b alone: it comes before ba, and the text begins anew for none.
        self.assertEqual(told_of(b"bab", turn()), [[2, *b"bab"]])
        self.assertEqual(told_of([1, 0, 1, 0], turn()), [[3, 1, 1, 0, 0]])

    def test_one_byte_over_and_over(self):
        for byte in (0, 255):
            for n in (2, 3, 300, 29996):
                self.assertEqual(told_of([byte] * n, turn()), [[n - 1] + [byte] * n])

    def test_all_bytes_differ(self):
        self.assertEqual(told_of(list(range(256)), turn()), [[0, 255, *range(255)]])
        # The byte before b is b + 1, before 255, at 0, the last one.
        self.assertEqual(told_of(list(range(255, -1, -1)), turn()), [[255, *range(1, 256), 0]])

    def test_bytes_0_and_255(self):
        self.assertEqual(told_of([0, 255], turn()), [[0, 255, 0]])
        self.assertEqual(told_of([255, 0], turn()), [[1, 255, 0]])
        self.assertEqual(told_of([0, 255, 0, 0, 255, 255], turn()), [[1, 255, 255, 0, 255, 0, 0]])

    def test_the_longest_text(self):
        n = 29996
        # Ends from the last back: those that begin with 0 are at even places, each behind a 1.
        self.assertEqual(told_of([0, 1] * (n // 2), turn()),
                         [[n // 2 - 1] + [1] * (n // 2) + [0] * (n // 2)])

    def test_turn_changes_nothing(self):
        given = told_of(b"banana", turn(), turn(), at(0), pieces(), turn())
        self.assertEqual(given, [[3, *b"nnbaaa"], [3, *b"nnbaaa"], [5], [0, 15], [3, *b"nnbaaa"]])

    def test_of_the_last_text_opened(self):
        given = told(opening(b"abcd"), turn(), opening(b"ba"), turn())
        self.assertEqual(given, [[0], [0, *b"dabc"], [0], [1, *b"ba"]])


if __name__ == "__main__":
    unittest.main()
