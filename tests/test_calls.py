"""The interface: how the calls are written and how their answers are."""

import unittest

from plain import (HIGHEST_K, Unchangeable, at, back, back_refused, common, find, find_refused, joined, opening,
                   opening_refused, order_of_pairs_once, pairs_once, piece, pieces, told, told_of, turn, twice)
from textends.ends import answers

MIXED = joined(at(0), turn(), opening(b"banana"), at(0), find(b"an"), find(b"x"), common(1, 3), twice(2), twice(7),
               opening_refused(0), find_refused(0), common(0, 6), pieces(), piece(5), piece(15), turn(),
               back_refused(6, 6), back(3, b"nnbaaa"), pieces(), opening(b"ab"), at(1), piece(HIGHEST_K),
               back(0, b"aa"), piece(0))
MIXED_ANSWERS = [1, -4, 1, -4, 1, 0, 1, 5, 3, 2, 1, 2, 1, 0, 1, 3, 3, 3, 3, 1, 1, 0,
                 1, -2, 1, -2, 1, -2, 2, 0, 15, 3, 0, 0, 1, 1, -1, 7, 3, 110, 110, 98, 97, 97, 97,
                 1, -2, 7, 0, 98, 97, 110, 97, 110, 97, 1, -4, 1, 0, 1, 1, 1, -1,
                 1, -1, 1, -4]


class Calls(unittest.TestCase):
    def test_no_calls(self):
        self.assertEqual(answers([]), [])

    def test_each_answer_has_its_count_before_it(self):
        self.assertEqual(answers(MIXED), MIXED_ANSWERS)

    def test_the_calls_numbers(self):
        self.assertEqual(answers([1, 3, 3, 98, 97, 98, 2, 0, 3, 1, 1, 98, 4, 0, 2, 5, 2]),
                         [1, 0, 1, 1, 3, 2, 1, 2, 1, 1, 3, 1, 1, 0])
        self.assertEqual(answers([1, 3, 3, 98, 97, 98, 6, 7, 4, 8, 9, 3, 2, 3, 98, 97, 98]),
                         [1, 0, 2, 0, 5, 3, 0, 0, 3, 4, 2, 98, 97, 98, 4, 0, 98, 97, 98])

    def test_it_gives_back_a_list_of_whole_numbers(self):
        given = answers(MIXED)
        self.assertIs(type(given), list)
        self.assertEqual({type(number) for number in given}, {int})

    def test_what_is_handed_in_stays_as_it_was(self):
        calls = list(MIXED)
        answers(calls)
        self.assertEqual(calls, MIXED)

    def test_what_is_handed_in_is_not_changed_for_a_while(self):
        self.assertEqual(answers(Unchangeable(MIXED)), MIXED_ANSWERS)

    def test_what_is_given_back_is_the_callers(self):
        given = answers(MIXED)
        given.append(99)
        given[0] = 99
        self.assertEqual(answers(MIXED), MIXED_ANSWERS)

    def test_each_time_begins_without_a_text(self):
        self.assertEqual(told(opening(b"banana"), at(0)), [[0], [5]])
        self.assertEqual(told(at(0), find(b"a"), common(0, 0), twice(2), pieces(), piece(0), turn()), [[-4]] * 7)
        self.assertEqual(answers(MIXED), answers(MIXED))

    def test_400_calls(self):
        opens = [opening([place % 3 for place in range(70)])] * 400
        self.assertEqual(told(*opens), [[0]] * 400)
        self.assertEqual(told(opening(b"abc"), *[at(k % 4) for k in range(399)]),
                         [[0]] + [[-2] if k % 4 == 3 else [k % 4] for k in range(399)])

    def test_400_calls_of_each_kind(self):
        text = [place % 7 for place in range(50)]
        # Of each length up to 44 there are seven pieces, then six, five and so on.
        self.assertEqual(told_of(text, *[pieces()] * 399), [[0, 7 * 44 + 21]] * 399)
        self.assertEqual(told_of(b"ba", *[piece(k % 4) for k in range(399)]),
                         [[[0, 1, 1], [0, 0, 1], [0, 0, 2], [-1]][k % 4] for k in range(399)])
        self.assertEqual(told_of(b"ba", *[turn()] * 399), [[1, *b"ba"]] * 399)
        self.assertEqual(told(*[back(3, b"nnbaaa"), back(0, b"aa")] * 200), [[0, *b"banana"], [-1]] * 200)

    def test_400_calls_of_all_kinds(self):
        some = [opening(b"banana"), at(1), find(b"na"), common(2, 4), twice(3), pieces(), piece(14), turn(),
                back(3, b"nnbaaa"), turn()]
        wanted = [[0], [3], [2, 4, 5], [2], [1, 1, 1], [0, 15], [0, 2, 4], [3, *b"nnbaaa"], [0, *b"banana"], [-4]]
        self.assertEqual(told(*some * 40), wanted * 40)

    def test_long_answers_one_behind_another(self):
        text = [0, 1] * 14900
        n = len(text)
        turned = [n // 2 - 1] + [1] * (n // 2) + [0] * (n // 2)
        self.assertEqual(told_of(text, *[turn()] * 33), [turned] * 33)

    def test_each_call_on_the_longest_text(self):
        for call, wanted in ((at(0), lambda n: [n - 1]), (find([7]), lambda n: [n, 0, n - 1]),
                             (common(0, 1), lambda n: [n - 1]), (twice(2), lambda n: [n - 1, n - 1, 0]),
                             (pieces(), lambda n: [0, n]), (piece(1), lambda n: [0, 0, 2]),
                             (turn(), lambda n: [n - 1] + [7] * n), (back_refused(0, 0), lambda n: [-2])):
            n = 30000 - 3 - len(call)
            self.assertEqual(told_of([7] * n, call), [wanted(n)], call)

    def test_each_call_on_the_longest_text_with_very_many_pieces(self):
        text = pairs_once(29996)
        order = order_of_pairs_once(text)
        turned = [order.index(0)] + [text[place - 1] if place else text[-1] for place in order]
        self.assertEqual(told_of(text, turn()), [turned])
        self.assertEqual(told(back(turned[0], turned[1:])), [[0, *text]])
        self.assertEqual(told_of(text, pieces()), [[0, len(set(text)) + 29996 * 29995 // 2]])
        for call, wanted in ((at(0), [0]), (at(29994), [order_of_pairs_once(text[:29995])[-1]]),
                             (twice(2), [1, 1, 0]), (piece(0), [0, 0, 1])):
            self.assertEqual(told_of(text[:29995], call), [wanted], call)
        self.assertEqual(told_of(text[:29994], common(0, 1)), [[1]])
        count = text[:29993].count(0)
        self.assertEqual(told_of(text[:29993], find([0])), [[count, 0, count - 1]])

    def test_30000_numbers(self):
        calls = joined(opening([1, 2] * 7000), find([2, 1] * 7000), find([1, 2] * 900), common(0, 2), at(0),
                       *[twice(2)] * 93)
        self.assertEqual(len(calls), 30000)
        wanted = [1, 0, 1, 0, 3, 6101, 899, 6999, 1, 13998, 1, 13998] + [3, 13998, 13998, 0] * 93
        self.assertEqual(answers(calls), wanted)


if __name__ == "__main__":
    unittest.main()
