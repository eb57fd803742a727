"""Points 1 to 8 against answers got the plain way, on many small texts."""

import itertools
import random
import unittest

from plain import (HIGHEST_K, PlainHolder, all_pieces, at, back, back_refused, common, find, find_refused, opening,
                   opening_refused, piece, pieces, plain_ats, plain_common, plain_find, plain_turn, plain_twice,
                   told, told_of, turn, twice)


class AgainstPlain(unittest.TestCase):
    def check(self, text, rows):
        n = len(text)
        ks = range(-1, n + 1)
        pairs = [(i, j) for i in ks for j in ks]
        times = range(2, n + 2)
        self.assertEqual(told_of(text, *[at(k) for k in ks]), plain_ats(text, ks), text)
        self.assertEqual(told_of(text, *[common(i, j) for i, j in pairs]),
                         [plain_common(text, i, j) for i, j in pairs], text)
        self.assertEqual(told_of(text, *[twice(t) for t in times]), [plain_twice(text, t) for t in times], text)
        self.assertEqual(told_of(text, *[find(row) for row in rows]), [plain_find(text, row) for row in rows], text)
        self.check_pieces(text)
        self.check_turn(text)

    def check_pieces(self, text):
        every = all_pieces(text)
        ks = [*range(len(every) + 2), HIGHEST_K]
        wanted = [[0, place, len(row)] for row, place in every] + [[-1]] * 3
        self.assertEqual(told_of(text, pieces(), *[piece(k) for k in ks]), [[0, len(every)]] + wanted, text)

    def check_turn(self, text):
        first, *turned = plain_turn(text)
        self.assertEqual(told_of(text, turn(), back(first, turned)), [[first, *turned], [0, *text]], text)

    def test_all_short_texts(self):
        for signs, longest in (((0, 255), 8), ((0, 1, 255), 5)):
            rows = [row for length in range(1, 4) for row in itertools.product(signs, repeat=length)]
            for n in range(1, longest + 1):
                for text in itertools.product(signs, repeat=n):
                    self.check(list(text), rows)

    def test_many_texts(self):
        source = random.Random(20)
        for count in range(300):
            signs = source.choice([[0, 1], [0, 255], [97, 98, 99], list(range(256))])
            text = [source.choice(signs) for place in range(source.randrange(1, 19))]
            text = text * source.choice([1, 1, 1, 2])
            text = text[:17]
            self.check(text, self.some_rows(source, text, signs))

    def some_rows(self, source, text, signs):
        rows = []
        for count in range(20):
            begin = source.randrange(len(text))
            row = text[begin:begin + source.randrange(1, 6)]
            if count % 2:
                row = row + [source.choice(signs)]
            rows.append(row)
        return rows

    def test_middling_texts(self):
        source = random.Random(21)
        for n in (150, 300):
            for signs in ([0, 1], list(range(256))):
                text = [source.choice(signs) for place in range(n)]
                ks = list(range(n))
                self.assertEqual(told_of(text, *[at(k) for k in ks]), plain_ats(text, ks))
                times = [2, 3, 4, 5, 9, 40, 80, n]
                self.assertEqual(told_of(text, *[twice(t) for t in times]), [plain_twice(text, t) for t in times])
                rows = self.some_rows(source, text, signs)
                self.assertEqual(told_of(text, *[find(row) for row in rows]), [plain_find(text, row) for row in rows])
                self.check_turn(text)

    def test_middling_texts_piece_by_piece(self):
        source = random.Random(22)
        for n, signs in ((60, [0, 1]), (60, [7, 8, 9]), (60, list(range(256))), (120, [0, 255])):
            text = [source.choice(signs) for place in range(n)]
            every = all_pieces(text)
            self.assertEqual(told_of(text, pieces()), [[0, len(every)]])
            for begin in range(0, len(every), 399):
                some = every[begin:begin + 399]
                given = told_of(text, *[piece(begin + k) for k in range(len(some))])
                self.assertEqual(given, [[0, place, len(row)] for row, place in some])

    def test_back_of_all_short_rows_with_each_first(self):
        for signs, longest in (((0, 255), 8), ((0, 1, 255), 5), ((3, 4, 5, 6), 4)):
            for n in range(1, longest + 1):
                self.check_back_of_all(list(itertools.product(signs, repeat=n)), n)

    def check_back_of_all(self, texts, n):
        by_turn = {tuple(plain_turn(text)): text for text in texts}
        # Whoever has what turn tells has the text.
        self.assertEqual(len(by_turn), len(texts))
        asked = [(first, *row) for row in texts for first in range(n)]
        for begin in range(0, len(asked), 400):
            some = asked[begin:begin + 400]
            given = told(*[back(row[0], row[1:]) for row in some])
            self.assertEqual(given, [[0, *by_turn[row]] if row in by_turn else [-1] for row in some])


class AnyOrder(unittest.TestCase):
    """Every call in any order on one holder."""

    def some_call(self, source):
        signs = source.choice([(0, 255), (97, 98, 99)])
        row = [source.choice(signs) for place in range(source.randrange(1, 8))]
        small = source.randrange(-1, len(row) + 2)
        turned = plain_turn(row)
        return source.choice([
            opening(row), opening(row), opening(row), opening_refused(source.choice([-1, 0, 65537])),
            at(small), find(row[:3]), find(row[:1]), find_refused(source.choice([-1, 0, 65537])),
            common(small, source.randrange(-1, 8)), twice(small), pieces(), pieces(), piece(source.randrange(30)),
            piece(source.randrange(6)), turn(), turn(), back(turned[0], turned[1:]),
            back(source.randrange(len(row)), row), back_refused(len(row), source.choice([-1, len(row)])),
            back_refused(source.choice([-1, 0, 65537]), 0)])

    def test_any_order(self):
        source = random.Random(23)
        for count in range(100):
            calls = [self.some_call(source) for number in range(source.choice([5, 40, 400]))]
            holder = PlainHolder()
            self.assertEqual(told(*calls), [holder.answer(call) for call in calls], calls)

    def test_each_call_behind_each_other(self):
        given = [opening(b"abab"), opening_refused(0), at(1), at(-1), find(b"b"), find_refused(0), common(0, 2),
                 common(0, 4), twice(2), twice(1), pieces(), piece(3), piece(7), turn(), back(2, b"bbaa"),
                 back(0, b"aa"), back_refused(2, 2)]
        for before in ([], [opening(b"cabc")]):
            for pair in itertools.product(given, repeat=2):
                calls = [*before, *pair, at(0), find(b"c"), common(0, 1), twice(2), pieces(), piece(1), turn()]
                holder = PlainHolder()
                self.assertEqual(told(*calls), [holder.answer(call) for call in calls], calls)


if __name__ == "__main__":
    unittest.main()
