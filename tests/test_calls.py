"""The interface: how the calls are written and how their answers are."""

import unittest

from plain import Unchangeable, at, common, find, find_refused, joined, opening, opening_refused, told, twice
from textends.ends import answers

MIXED = joined(at(0), opening(b"banana"), at(0), find(b"an"), find(b"x"), common(1, 3), twice(2), twice(7),
               opening_refused(0), find_refused(0), common(0, 6), opening(b"ab"), at(1))
MIXED_ANSWERS = [1, -4, 1, 0, 1, 5, 3, 2, 1, 2, 1, 0, 1, 3, 3, 3, 3, 1, 1, 0,
                 1, -2, 1, -2, 1, -2, 1, 0, 1, 1]


class Calls(unittest.TestCase):
    def test_no_calls(self):
        self.assertEqual(answers([]), [])

    def test_each_answer_has_its_count_before_it(self):
        self.assertEqual(answers(MIXED), MIXED_ANSWERS)

    def test_the_calls_numbers(self):
        self.assertEqual(answers([1, 3, 3, 98, 97, 98, 2, 0, 3, 1, 1, 98, 4, 0, 2, 5, 2]),
                         [1, 0, 1, 1, 3, 2, 1, 2, 1, 1, 3, 1, 1, 0])

    def test_it_gives_back_a_list_of_whole_numbers(self):
        given = answers(MIXED)
        self.assertIs(type(given), list)
        self.assertEqual({type(number) for number in given}, {int})

    def test_what_is_handed_in_stays_as_it_was(self):
        calls = list(MIXED)
        answers(calls)
        self.assertEqual(calls, MIXED)

    def test_what_is_handed_in_is_not_changed_for_a_while(self):
        self.assertEqual(answers(Unchangeable(MIXED)), MIXED_ANSWERS)

    def test_what_is_given_back_is_the_callers(self):
        given = answers(MIXED)
        given.append(99)
        given[0] = 99
        self.assertEqual(answers(MIXED), MIXED_ANSWERS)

    def test_each_time_begins_without_a_text(self):
        self.assertEqual(told(opening(b"banana"), at(0)), [[0], [5]])
        self.assertEqual(told(at(0), find(b"a"), common(0, 0), twice(2)), [[-4]] * 4)
        self.assertEqual(answers(MIXED), answers(MIXED))

    def test_400_calls(self):
        opens = [opening([place % 3 for place in range(70)])] * 400
        self.assertEqual(told(*opens), [[0]] * 400)
        self.assertEqual(told(opening(b"abc"), *[at(k % 4) for k in range(399)]),
                         [[0]] + [[-2] if k % 4 == 3 else [k % 4] for k in range(399)])

    def test_30000_numbers(self):
        calls = joined(opening([1, 2] * 7000), find([2, 1] * 7000), find([1, 2] * 900), common(0, 2), at(0),
                       *[twice(2)] * 93)
        self.assertEqual(len(calls), 30000)
        wanted = [1, 0, 1, 0, 3, 6101, 899, 6999, 1, 13998, 1, 13998] + [3, 13998, 13998, 0] * 93
        self.assertEqual(answers(calls), wanted)


if __name__ == "__main__":
    unittest.main()
