"""Point 2: at."""

import unittest

from plain import HIGHEST, LOWEST, at, told_of


def all_places(text):
    return [answer[0] for answer in told_of(text, *[at(k) for k in range(len(text))])]


class At(unittest.TestCase):
    def test_ordinary_text(self):
        self.assertEqual(all_places(b"banana"), [5, 3, 1, 0, 4, 2])
        self.assertEqual(all_places(b"mississippi"), [10, 7, 4, 1, 0, 9, 8, 6, 3, 5, 2])

    def test_one_byte_over_and_over(self):
        for byte in (0, 97, 255):
            self.assertEqual(all_places([byte] * 300), list(range(299, -1, -1)))

    def test_an_end_comes_before_one_that_begins_with_it(self):
        self.assertEqual(all_places([0, 0]), [1, 0])
        self.assertEqual(all_places([5, 0, 5]), [1, 2, 0])

    def test_bytes_are_from_0_to_255_in_order(self):
        self.assertEqual(all_places([255, 0, 128, 127]), [1, 3, 2, 0])
        self.assertEqual(all_places([255, 255, 0, 255]), [2, 3, 1, 0])

    def test_all_bytes(self):
        self.assertEqual(all_places(list(range(255, -1, -1))), list(range(255, -1, -1)))
        self.assertEqual(all_places(list(range(256))), list(range(256)))

    def test_k_just_inside_and_outside(self):
        given = told_of(b"banana", at(-1), at(0), at(5), at(6))
        self.assertEqual(given, [[-2], [5], [2], [-2]])
        self.assertEqual(told_of(b"b", at(-1), at(0), at(1)), [[-2], [0], [-2]])

    def test_k_far_outside(self):
        given = told_of(b"banana", at(LOWEST), at(-6), at(-7), at(65536), at(HIGHEST))
        self.assertEqual(given, [[-2]] * 5)

    def test_long_texts(self):
        n = 29000
        asked = [0, 1, 2, 14499, 14500, n - 2, n - 1]
        same = told_of([9] * n, at(-1), *[at(k) for k in asked], at(n))
        self.assertEqual(same, [[-2]] + [[n - 1 - k] for k in asked] + [[-2]])
        # The ends that begin with 0 are those at even places, the shortest first.
        turns = told_of([0, 1] * (n // 2), *[at(k) for k in asked])
        places = list(range(n - 2, -1, -2)) + list(range(n - 1, -1, -2))
        self.assertEqual(turns, [[places[k]] for k in asked])


if __name__ == "__main__":
    unittest.main()
