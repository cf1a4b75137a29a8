"""sure: the rows that answer the question in every solution."""

import unittest

from lines import MOST, ask, begins, fact, gone, last, one, rule, sure, told

COPIED = rule([0, 0, 1], [2, 0, 1])
COPIED_THERE = rule([1, 0, 1], [3, 0, 1])
SOMEONE = rule([0, 0, 1], [2, 0, 2])
THROUGH = rule([0, 0, 1], [2, 0, 2, 3, 2, 1])
BOTH_ONE = one(0, 1, [2, 0, 1])
SAME_SECOND = one(1, 2, [2, 0, 1, 2, 0, 2])
FACTS = [fact(0, 2, 9), fact(0, 10, 9), fact(0, 2, 10), fact(0, 1, 10)]


class Rows(unittest.TestCase):
    def test_no_question(self):
        self.assertEqual(last(sure()), [0])
        self.assertEqual(last(COPIED, *FACTS, sure()), [0])

    def test_no_alternatives(self):
        for places in ([], [0], [0, 1], [MOST, 7]):
            self.assertEqual(last(COPIED, *FACTS, ask(places), sure()), [0])

    def test_nothing_answers(self):
        self.assertEqual(last(ask([0], [2, 0, 1]), sure()), [0])
        self.assertEqual(last(COPIED, *FACTS, ask([0, 1], [3, 0, 1]), sure()), [0])
        self.assertEqual(last(COPIED, *FACTS, ask([0], [2, 0, 0]), sure()), [0])

    def test_one_place(self):
        self.assertEqual(last(COPIED, *FACTS, ask([0], [2, 0, 1]), sure()), [3, 1, 2, 10])
        self.assertEqual(last(COPIED, *FACTS, ask([1], [2, 0, 1]), sure()), [2, 9, 10])

    def test_two_places_rising_by_the_first_value_that_differs(self):
        self.assertEqual(last(COPIED, *FACTS, ask([0, 1], [2, 0, 1]), sure()), [4, 1, 10, 2, 9, 2, 10, 10, 9])

    def test_the_values_stand_in_the_order_of_the_places_asked_for(self):
        self.assertEqual(last(COPIED, *FACTS, ask([1, 0], [2, 0, 1]), sure()), [4, 9, 2, 9, 10, 10, 1, 10, 2])

    def test_the_same_place_twice(self):
        self.assertEqual(last(COPIED, *FACTS, ask([0, 0], [2, 0, 1]), sure()), [3, 1, 1, 2, 2, 10, 10])
        self.assertEqual(last(COPIED, *FACTS, ask([1, 1], [2, 0, 1]), sure()), [2, 9, 9, 10, 10])
        self.assertEqual(last(COPIED, fact(0, 4, 4), ask([3, 3], [2, 3, 3]), sure()), [1, 4, 4])

    def test_no_places_is_one_row_of_no_values_or_none(self):
        self.assertEqual(last(COPIED, *FACTS, ask([], [2, 0, 1]), sure()), [1])
        self.assertEqual(last(COPIED, *FACTS, ask([], [2, 0, 1, 2, 1, 0]), sure()), [0])
        self.assertEqual(last(COPIED, *FACTS, ask([], [3, 0, 1]), sure()), [0])
        self.assertEqual(last(COPIED, *FACTS, ask([], [3, 0, 1], [2, 0, 1]), sure()), [1])
        self.assertEqual(last(rule([0, 0, 1], [2, 2, 3]), fact(0, 1, 2), ask([], [2, 0, 1]), sure()), [1])

    def test_two_atoms(self):
        calls = [COPIED, fact(0, 1, 2), fact(0, 2, 3), fact(0, 2, 4), fact(0, 5, 1)]
        self.assertEqual(last(*calls, ask([0, 2], [2, 0, 1, 2, 1, 2]), sure()), [3, 1, 3, 1, 4, 5, 2])
        self.assertEqual(last(*calls, ask([2, 0], [2, 0, 1, 2, 1, 2]), sure()), [3, 2, 5, 3, 1, 4, 1])
        self.assertEqual(last(*calls, ask([1], [2, 0, 1, 2, 1, 2]), sure()), [2, 1, 2])

    def test_two_atoms_without_a_place_in_common(self):
        calls = [COPIED, COPIED_THERE, fact(0, 1, 2), fact(0, 3, 2), fact(1, 5, 6), fact(1, 4, 6)]
        self.assertEqual(last(*calls, ask([0, 2], [2, 0, 1, 3, 2, 3]), sure()), [4, 1, 4, 1, 5, 3, 4, 3, 5])
        self.assertEqual(last(*calls, ask([2, 0], [2, 0, 1, 3, 2, 3]), sure()), [4, 4, 1, 4, 3, 5, 1, 5, 3])

    def test_two_alternatives_give_one_list_rising_each_row_once(self):
        calls = [COPIED, COPIED_THERE, fact(0, 1, 9), fact(0, 5, 9), fact(1, 3, 9), fact(1, 5, 9)]
        self.assertEqual(last(*calls, ask([0], [2, 0, 1], [3, 0, 1]), sure()), [3, 1, 3, 5])
        self.assertEqual(last(*calls, ask([0], [3, 0, 1], [2, 0, 1]), sure()), [3, 1, 3, 5])
        self.assertEqual(last(*calls, ask([0, 1], [2, 0, 1], [3, 1, 0]), sure()), [4, 1, 9, 5, 9, 9, 3, 9, 5])
        self.assertEqual(last(*calls, ask([4], [2, 0, 4, 3, 1, 4], [2, 4, 4]), sure()), [1, 9])

    def test_a_row_with_an_unknown_is_not_sure(self):
        calls = [SOMEONE, COPIED, fact(0, 1, 2), fact(0, 3, 4)]
        self.assertEqual(last(*calls, ask([1], [2, 0, 1]), sure()), [2, 2, 4])
        self.assertEqual(last(*calls, ask([0, 1], [2, 0, 1]), sure()), [2, 1, 2, 3, 4])
        self.assertEqual(last(*calls, ask([1, 0], [2, 0, 1]), sure()), [2, 2, 1, 4, 3])
        self.assertEqual(last(SOMEONE, fact(0, 1, 2), ask([3, 0], [2, 0, 1, 2, 2, 3]), sure()), [0])
        self.assertEqual(last(SOMEONE, fact(0, 1, 2), ask([0], [2, 0, 1]), sure()), [1, 1])

    def test_a_row_is_sure_that_is_matched_through_an_unknown(self):
        calls = [THROUGH, fact(0, 1, 2), fact(0, 3, 4), ask([0, 2], [2, 0, 1, 3, 1, 2])]
        self.assertEqual(last(*calls, sure()), [2, 1, 2, 3, 4])

    def test_it_is_asked_of_what_is_made_one(self):
        calls = [THROUGH, fact(0, 1, 2), fact(0, 1, 3), fact(0, 4, 3), ask([0, 2], [2, 0, 1, 3, 1, 2])]
        self.assertEqual(last(*calls, sure()), [3, 1, 2, 1, 3, 4, 3])
        calls += [SAME_SECOND, one(0, 2, [3, 0, 1, 3, 2, 1])]
        self.assertEqual(last(*calls, sure()), [4, 1, 2, 1, 3, 4, 2, 4, 3])
        self.assertEqual(last(*calls, gone(0, 1, 3), sure()), [2, 1, 2, 4, 3])

    def test_an_unknown_that_is_made_a_known_one(self):
        calls = [THROUGH, rule([1, 0, 1], [2, 0, 1]), SAME_SECOND, ask([0, 1], [3, 0, 1]), fact(0, 1, 2)]
        self.assertEqual(last(*calls, sure()), [0])
        self.assertEqual(last(*calls, fact(1, 1, 7), sure()), [1, 7, 2])
        self.assertEqual(last(*calls, fact(1, 1, 7), gone(1, 1, 7), sure()), [0])

    def test_of_the_question_that_stands_now(self):
        calls = [COPIED, *FACTS, ask([0], [2, 0, 1]), sure(), ask([1], [2, 0, 1]), sure(), ask([5], [2, 0, 1]),
                 sure(), ask([]), sure()]
        self.assertEqual(told(*calls)[5:], [[0], [3, 1, 2, 10], [0], [2, 9, 10], [-1], [2, 9, 10], [0], [0]])

    def test_no_question_is_left_behind_begins(self):
        self.assertEqual(last(ask([], [2, 0, 1]), begins(), COPIED, fact(0, 1, 2), sure()), [0])


class Refused(unittest.TestCase):
    def test_it_clashes(self):
        calls = [COPIED, BOTH_ONE, fact(0, 1, 2), fact(0, 3, 3)]
        for asked in (ask([]), ask([0, 7]), ask([], [2, 0, 1]), ask([0], [2, 0, 1]), ask([0, 1], [3, 0, 1], [2, 0, 1])):
            with self.subTest(asked):
                self.assertEqual(last(*calls, asked, sure()), [-9])
                self.assertEqual(last(asked, *calls, sure()), [-9])
        self.assertEqual(last(*calls, sure()), [-9])

    def test_it_clashes_no_more(self):
        calls = [COPIED, BOTH_ONE, ask([0], [2, 0, 1]), fact(0, 3, 3), sure(), fact(0, 1, 2), sure(),
                 gone(0, 1, 2), sure()]
        self.assertEqual([told(*calls)[at] for at in (4, 6, 8)], [[1, 3], [-9], [1, 3]])

    def test_it_clashes_no_more_behind_begins(self):
        self.assertEqual(last(COPIED, BOTH_ONE, fact(0, 1, 2), begins(), sure()), [0])


if __name__ == "__main__":
    unittest.main()
