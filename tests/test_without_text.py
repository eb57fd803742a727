"""Point 9: what the calls but open and back answer without a text."""

import unittest

from plain import (HIGHEST, HIGHEST_K, LOWEST, at, back_refused, common, find, find_refused, opening, piece, pieces,
                   told, turn, twice)

ANY = (LOWEST, -1, 0, 1, 5, 65536, 65537, HIGHEST)


class WithoutText(unittest.TestCase):
    def test_at_whatever_k_is(self):
        for k in ANY:
            self.assertEqual(told(at(k)), [[-4]], k)

    def test_common_whatever_i_and_j_are(self):
        for i in ANY:
            for j in ANY:
                self.assertEqual(told(common(i, j)), [[-4]], (i, j))

    def test_find_in_range(self):
        for what in ([0], [255], b"banana", [1] * 29997):
            self.assertEqual(told(find(what)), [[-4]], len(what))

    def test_find_out_of_range_comes_first(self):
        for length in (LOWEST, -1, 0, 65537, HIGHEST):
            self.assertEqual(told(find_refused(length)), [[-2]], length)

    def test_twice_in_range(self):
        for times in (2, 3, 65535, 65536):
            self.assertEqual(told(twice(times)), [[-4]], times)

    def test_twice_out_of_range_comes_first(self):
        for times in (LOWEST, -2, -1, 0, 1, 65537, HIGHEST):
            self.assertEqual(told(twice(times)), [[-2]], times)

    def test_pieces(self):
        self.assertEqual(told(pieces(), pieces()), [[-4], [-4]])

    def test_piece_whatever_k_is(self):
        for k in (0, 1, 5, 65536, 65537, HIGHEST, HIGHEST + 1, HIGHEST_K):
            self.assertEqual(told(piece(k)), [[-4]], k)

    def test_turn(self):
        self.assertEqual(told(turn(), turn()), [[-4], [-4]])

    def test_back_out_of_range(self):
        self.assertEqual(told(back_refused(0, 0), back_refused(3, 3), pieces()), [[-2], [-2], [-4]])

    def test_an_open_later_on(self):
        given = told(at(0), twice(2), pieces(), piece(0), turn(), opening(b"aa"), at(0), twice(2), pieces(), piece(0),
                     turn())
        self.assertEqual(given, [[-4]] * 5 + [[0], [1], [1, 1, 0], [0, 2], [0, 0, 1], [1, *b"aa"]])


if __name__ == "__main__":
    unittest.main()
