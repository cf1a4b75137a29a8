"""fact and gone: how many facts there are, and their refusals."""

import unittest

from lines import MOST, fact, gone, last, rule, told

SIX = [fact(0, 0, value) for value in range(3)] + [fact(1, 0, value) for value in range(3)]


def counts(*calls):
    return [given[0] for given in told(*calls)]


class Counted(unittest.TestCase):
    def test_how_many_there_are_then(self):
        self.assertEqual(counts(*SIX), [1, 2, 3, 4, 5, 6])

    def test_gone_counts_down(self):
        calls = SIX + [gone(1, 0, 2), gone(0, 0, 0), gone(0, 0, 1)]
        self.assertEqual(counts(*calls), [1, 2, 3, 4, 5, 6, 5, 4, 3])

    def test_a_fact_may_come_again_when_it_is_gone(self):
        self.assertEqual(counts(fact(0, 1, 2), gone(0, 1, 2), fact(0, 1, 2)), [1, 0, 1])

    def test_there_is_room_again_when_one_is_gone(self):
        calls = SIX + [fact(0, 9, 9), gone(0, 0, 0), fact(0, 9, 9), fact(0, 8, 8)]
        self.assertEqual(counts(*calls)[6:], [-7, 5, 6, -7])

    def test_the_table_and_the_order_of_the_values_tell_facts_apart(self):
        self.assertEqual(counts(fact(0, 1, 2), fact(1, 1, 2), fact(0, 2, 1), fact(0, 1, 1)), [1, 2, 3, 4])

    def test_the_edges_that_are_taken(self):
        self.assertEqual(counts(fact(0, 0, 0), fact(1, 19, 19), fact(1, 0, 19), fact(0, 19, 0)), [1, 2, 3, 4])

    def test_gone_takes_that_one_alone(self):
        copied = rule([0, 0, 1], [2, 0, 1])
        calls = [copied, fact(0, 1, 2), fact(0, 2, 1), gone(0, 1, 2), gone(0, 1, 2), gone(0, 2, 1)]
        self.assertEqual(told(*calls)[3:], [[1, 0, 1, 0, 0, 0], [-2], [0, 0, 1, 0, 0, 0]])


class FactRefused(unittest.TestCase):
    WRONG = [(2, 0, 0), (3, 0, 0), (4, 0, 0), (MOST, 0, 0), (0, 20, 0), (0, 0, 20), (1, 20, 0), (1, 0, 20),
             (0, 100, 0), (0, 0, 100), (0, MOST, 0), (0, 0, MOST), (MOST, MOST, MOST)]

    def test_not_the_sources_table_or_a_value_not_below_20(self):
        for wrong in self.WRONG:
            with self.subTest(wrong):
                self.assertEqual(last(fact(*wrong)), [-1])

    def test_it_is_there(self):
        self.assertEqual(last(fact(0, 1, 2), fact(0, 1, 2)), [-4])
        self.assertEqual(last(*SIX[:5], fact(1, 0, 1)), [-4])

    def test_there_are_6(self):
        self.assertEqual(last(*SIX, fact(0, 19, 19)), [-7])
        self.assertEqual(last(*SIX, fact(1, 2, 0)), [-7])

    def test_the_wrong_one_is_told_ahead_of_there_being_6(self):
        for wrong in self.WRONG:
            with self.subTest(wrong):
                self.assertEqual(last(*SIX, fact(*wrong)), [-1])

    def test_it_is_there_is_told_ahead_of_there_being_6(self):
        for there in SIX:
            self.assertEqual(last(*SIX, there), [-4])

    def test_all_is_as_it_was(self):
        copied = rule([0, 0, 1], [2, 0, 1])
        given = told(copied, fact(0, 1, 2), fact(0, 1, 2), fact(2, 1, 2), fact(0, 1, 20), gone(2, 1, 2),
                     gone(0, 1, 20), fact(0, 3, 4))
        self.assertEqual(given[1:], [[1, 1, 0, 0, 0, 0], [-4], [-1], [-1], [-2], [-2], [2, 1, 0, 0, 0, 0]])

    def test_all_is_as_it_was_when_there_are_6(self):
        given = told(*SIX, fact(0, 9, 9), rule([0, 0, 1], [2, 0, 1]), gone(0, 9, 9), gone(0, 0, 0))
        self.assertEqual(given[6:], [[-7], [0, 3, 0, 0, 0, 0], [-2], [5, 0, 1, 0, 0, 0]])


class GoneRefused(unittest.TestCase):
    def test_no_such_fact_whatever_its_numbers_are(self):
        for missing in [(0, 1, 2), (1, 1, 1), (0, 2, 1), (2, 0, 0), (3, 1, 1), (4, 1, 1), (0, 20, 20), (0, 100, 0),
                        (MOST, 0, 0), (0, MOST, 0), (0, 0, MOST), (MOST, MOST, MOST)]:
            with self.subTest(missing):
                self.assertEqual(last(gone(*missing)), [-2])
                self.assertEqual(last(fact(0, 1, 1), gone(*missing)), [-2])

    def test_a_fact_of_the_target_is_none_of_the_sources(self):
        self.assertEqual(last(rule([0, 0, 1], [2, 0, 1]), fact(0, 1, 2), gone(2, 1, 2)), [-2])

    def test_twice_gone(self):
        self.assertEqual(told(fact(0, 1, 2), gone(0, 1, 2), gone(0, 1, 2))[1:], [[0, 0, 0, 0, 0, 0], [-2]])

    def test_all_is_as_it_was(self):
        given = told(rule([0, 0, 1], [2, 0, 2]), fact(0, 1, 2), gone(0, 2, 1), fact(0, 1, 3), gone(0, 1, 2))
        self.assertEqual(given[1:], [[1, 1, 0, 0, 0, 0], [-2], [2, 1, 0, 0, 0, 0], [1, 0, 1, 0, 0, 0]])


if __name__ == "__main__":
    unittest.main()
