"""Points 1 to 5 against answers got the plain way, on many small texts."""

import itertools
import random
import unittest

from plain import at, common, find, plain_ats, plain_common, plain_find, plain_twice, told_of, twice


class AgainstPlain(unittest.TestCase):
    def check(self, text, rows):
        n = len(text)
        ks = range(-1, n + 1)
        pairs = [(i, j) for i in ks for j in ks]
        times = range(2, n + 2)
        self.assertEqual(told_of(text, *[at(k) for k in ks]), plain_ats(text, ks), text)
        self.assertEqual(told_of(text, *[common(i, j) for i, j in pairs]),
                         [plain_common(text, i, j) for i, j in pairs], text)
        self.assertEqual(told_of(text, *[twice(t) for t in times]), [plain_twice(text, t) for t in times], text)
        self.assertEqual(told_of(text, *[find(row) for row in rows]), [plain_find(text, row) for row in rows], text)

    def test_all_short_texts(self):
        for signs, longest in (((0, 255), 8), ((0, 1, 255), 5)):
            rows = [row for length in range(1, 4) for row in itertools.product(signs, repeat=length)]
            for n in range(1, longest + 1):
                for text in itertools.product(signs, repeat=n):
                    self.check(list(text), rows)

    def test_many_texts(self):
        source = random.Random(20)
        for turn in range(300):
            signs = source.choice([[0, 1], [0, 255], [97, 98, 99], list(range(256))])
            text = [source.choice(signs) for place in range(source.randrange(1, 19))]
            text = text * source.choice([1, 1, 1, 2])
            text = text[:18]
            self.check(text, self.some_rows(source, text, signs))

    def some_rows(self, source, text, signs):
        rows = []
        for count in range(20):
            begin = source.randrange(len(text))
            row = text[begin:begin + source.randrange(1, 6)]
            if count % 2:
                row = row + [source.choice(signs)]
            rows.append(row)
        return rows

    def test_middling_texts(self):
        source = random.Random(21)
        for n in (150, 300):
            for signs in ([0, 1], list(range(256))):
                text = [source.choice(signs) for place in range(n)]
                ks = list(range(n))
                self.assertEqual(told_of(text, *[at(k) for k in ks]), plain_ats(text, ks))
                times = [2, 3, 4, 5, 9, 40, 80, n]
                self.assertEqual(told_of(text, *[twice(t) for t in times]), [plain_twice(text, t) for t in times])
                rows = self.some_rows(source, text, signs)
                self.assertEqual(told_of(text, *[find(row) for row in rows]), [plain_find(text, row) for row in rows])


if __name__ == "__main__":
    unittest.main()
