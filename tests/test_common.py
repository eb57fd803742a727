"""Point 4: common."""

import unittest

from plain import HIGHEST, LOWEST, common, plain_common, told_of


class Common(unittest.TestCase):
    def test_ordinary_text(self):
        given = told_of(b"banana", common(1, 3), common(3, 1), common(2, 4), common(1, 5), common(0, 1), common(3, 5))
        self.assertEqual(given, [[3], [3], [2], [1], [0], [1]])

    def test_a_place_and_itself(self):
        given = told_of(b"banana", *[common(i, i) for i in range(6)])
        self.assertEqual(given, [[6], [5], [4], [3], [2], [1]])
        self.assertEqual(told_of([0], common(0, 0)), [[1]])

    def test_all_places(self):
        for text in (b"mississippi", b"abababab", [0, 255, 0, 0, 255, 255, 0], [6] * 12):
            pairs = [(i, j) for i in range(len(text)) for j in range(len(text))]
            given = told_of(text, *[common(i, j) for i, j in pairs])
            self.assertEqual(given, [plain_common(text, i, j) for i, j in pairs])

    def test_i_and_j_just_inside_and_outside(self):
        given = told_of(b"banana", common(0, 5), common(5, 0), common(5, 5), common(0, 0))
        self.assertEqual(given, [[0], [0], [1], [6]])
        for outside in (LOWEST, -6, -1, 6, 7, 65536, HIGHEST):
            for inside in (0, 3, 5):
                given = told_of(b"banana", common(outside, inside), common(inside, outside))
                self.assertEqual(given, [[-2], [-2]], outside)
            self.assertEqual(told_of(b"banana", common(outside, outside)), [[-2]], outside)

    def test_one_byte(self):
        self.assertEqual(told_of([255], common(0, 0), common(0, 1), common(-1, 0)), [[1], [-2], [-2]])

    def test_long_texts_and_many_calls(self):
        n = 28000
        pairs = [(k, n - 1 - 60 * k) for k in range(399)]
        given = told_of([8] * n, *[common(i, j) for i, j in pairs])
        self.assertEqual(given, [[n - max(i, j)] for i, j in pairs])


if __name__ == "__main__":
    unittest.main()
