"""Point 6: pieces and piece."""

import unittest

from plain import HIGHEST_K, all_pieces, order_of_pairs_once, pairs_once, piece, pieces, told_of


class Pieces(unittest.TestCase):
    def test_ordinary_texts(self):
        self.assertEqual(told_of(b"banana", pieces()), [[0, 15]])
        self.assertEqual(told_of(b"mississippi", pieces()), [[0, 53]])
        self.assertEqual(told_of(b"abab", pieces(), pieces()), [[0, 7], [0, 7]])

    def test_one_byte(self):
        for byte in (0, 97, 255):
            self.assertEqual(told_of([byte], pieces()), [[0, 1]])

    def test_one_byte_over_and_over(self):
        for n in (2, 3, 300, 29996):
            for byte in (0, 255):
                self.assertEqual(told_of([byte] * n, pieces()), [[0, n]])

    def test_all_bytes_differ(self):
        for text in (range(256), range(255, -1, -1), [place * 77 % 256 for place in range(256)]):
            self.assertEqual(told_of(list(text), pieces()), [[0, 256 * 257 // 2]])

    def test_bytes_0_and_255(self):
        self.assertEqual(told_of([0, 255, 0], pieces()), [[0, 5]])
        self.assertEqual(told_of([255, 0, 255, 0], pieces()), [[0, 7]])

    def test_the_longest_text_with_very_many_pieces(self):
        n = 29996
        text = pairs_once(n)
        self.assertEqual(len(set(zip(text, text[1:]))), n - 1)
        self.assertEqual(told_of(text, pieces()), [[0, len(set(text)) + n * (n - 1) // 2]])


class Piece(unittest.TestCase):
    def test_ordinary_text(self):
        given = told_of(b"banana", *[piece(k) for k in range(17)])
        # a an ana anan anana, b ba ban bana banan banana, n na nan nana
        wanted = [[0, 1, length] for length in range(1, 6)]
        wanted += [[0, 0, length] for length in range(1, 7)]
        wanted += [[0, 2, length] for length in range(1, 5)]
        self.assertEqual(given, wanted + [[-1], [-1]])

    def test_of_several_places_the_first_is_told(self):
        # Of the ends that begin with a, that at the first place is in order the first, the middle one, the last.
        self.assertEqual(told_of(b"a1a2a3", piece(9)), [[0, 0, 1]])
        self.assertEqual(told_of(b"a2a3a1", piece(9)), [[0, 0, 1]])
        self.assertEqual(told_of(b"3a2a1a", piece(12)), [[0, 1, 1]])
        # a and ab come at 0 first; aba comes at 6, before abb and abc.
        self.assertEqual(told_of(b"abcabbaba", piece(0), piece(1), piece(2), piece(3)),
                         [[0, 0, 1], [0, 0, 2], [0, 6, 3], [0, 3, 3]])

    def test_one_byte(self):
        for byte in (0, 97, 255):
            self.assertEqual(told_of([byte], piece(0), piece(1), piece(HIGHEST_K)), [[0, 0, 1], [-1], [-1]])

    def test_one_byte_over_and_over(self):
        for byte in (0, 255):
            given = told_of([byte] * 300, *[piece(k) for k in range(302)])
            self.assertEqual(given, [[0, 0, k + 1] for k in range(300)] + [[-1], [-1]])

    def test_all_bytes_differ(self):
        ks = [0, 1, 255, 256, 510, 511, 32893, 32894, 32895, 32896, HIGHEST_K]
        self.assertEqual(told_of(list(range(256)), *[piece(k) for k in ks]),
                         [[0, 0, 1], [0, 0, 2], [0, 0, 256], [0, 1, 1], [0, 1, 255], [0, 2, 1],
                          [0, 254, 1], [0, 254, 2], [0, 255, 1], [-1], [-1]])
        self.assertEqual(told_of(list(range(255, -1, -1)), *[piece(k) for k in ks]),
                         [[0, 255, 1], [0, 254, 1], [0, 233, 3], [0, 233, 4], [0, 224, 15], [0, 224, 16],
                          [0, 0, 254], [0, 0, 255], [0, 0, 256], [-1], [-1]])

    def test_bytes_0_and_255(self):
        # 0, 0 255, 0 255 0, 255, 255 0
        given = told_of([0, 255, 0], *[piece(k) for k in range(6)])
        self.assertEqual(given, [[0, 0, 1], [0, 0, 2], [0, 0, 3], [0, 1, 1], [0, 1, 2], [-1]])
        # 0, 0 0, 0 0 255, 0 255, 255
        given = told_of([0, 0, 255], *[piece(k) for k in range(6)])
        self.assertEqual(given, [[0, 0, 1], [0, 0, 2], [0, 0, 3], [0, 1, 2], [0, 2, 1], [-1]])

    def test_first_last_and_behind_the_last(self):
        for text in (b"banana", b"abcabc", [0, 255, 0], [7] * 9, list(range(30))):
            every = all_pieces(text)
            count = len(every)
            given = told_of(text, pieces(), piece(0), piece(count - 1), piece(count), piece(count + 1),
                            piece(65536), piece(2147483648), piece(HIGHEST_K))
            first, last = every[0], every[-1]
            self.assertEqual(given, [[0, count], [0, first[1], len(first[0])], [0, last[1], len(last[0])]]
                             + [[-1]] * 5)

    def test_a_piece_that_is_not_there_changes_nothing(self):
        self.assertEqual(told_of(b"ab", piece(3), piece(2), pieces(), piece(0)), [[-1], [0, 1, 1], [0, 3], [0, 0, 1]])

    def test_the_longest_text_of_one_byte(self):
        n = 29995
        for k, wanted in ((0, [0, 0, 1]), (n - 1, [0, 0, n]), (n, [-1]), (HIGHEST_K, [-1])):
            self.assertEqual(told_of([255] * n, piece(k)), [wanted])

    def test_400_calls_on_one_byte_over_and_over(self):
        n = 30000 - 3 - 2 * 399
        self.assertEqual(told_of([0] * n, *[piece(k) for k in range(399)]), [[0, 0, k + 1] for k in range(399)])

    def test_the_longest_text_with_very_many_pieces(self):
        n = 29995
        text = pairs_once(n)
        count = len(set(text)) + n * (n - 1) // 2
        # 0 0 comes at 0 alone and is in order the first pair.
        for k, wanted in ((0, [0, 0, 1]), (1, [0, 0, 2]), (n - 1, [0, 0, n]), (n, [0, 1, 2]),
                          (count, [-1]), (HIGHEST_K, [-1])):
            self.assertEqual(told_of(text, piece(k)), [wanted], k)
        # Of the pieces that begin with the greatest byte the last is a whole end.
        last = order_of_pairs_once(text)[-1]
        self.assertEqual(told_of(text, piece(count - 1)), [[0, last, n - last]])

    def test_many_calls_on_a_text_with_very_many_pieces(self):
        n = 30000 - 3 - 2 * 399
        text = pairs_once(n)
        wanted = self.asked_of_pairs_once(text)
        ks = sorted(wanted)
        self.assertIn(len(ks), range(380, 400))
        self.assertEqual(told_of(text, *[piece(k) for k in ks]), [wanted[k] for k in ks])

    def asked_of_pairs_once(self, text):
        """Some of the pieces, by how many there are before them."""
        n = len(text)
        seen = {}
        wanted = {}
        before = 0
        for number, place in enumerate(order_of_pairs_once(text)):
            new = text[place] not in seen
            seen[text[place]] = True
            if new:
                wanted[before] = [0, text.index(text[place]), 1]
            # One byte is shared with the end before in order, but where it's new.
            shared = 0 if new else 1
            before += n - place - shared
            if number % 133 == 0:
                wanted[before - 1] = [0, place, n - place]
        return wanted


if __name__ == "__main__":
    unittest.main()
