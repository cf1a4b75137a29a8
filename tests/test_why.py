"""why: the matches that hand a fact of the target on."""

import unittest

from lines import MOST, begins, fact, gone, last, made, one, rule, told, why

COPIED = rule([0, 0, 1], [2, 0, 1])
SOMEONE = rule([0, 0, 1], [2, 0, 2])


class Why(unittest.TestCase):
    def test_how_many_then_its_rule_how_many_values_and_they(self):
        self.assertEqual(last(COPIED, fact(0, 4, 5), why(2, 4, 5)), [1, 0, 2, 4, 5])

    def test_which_rule_it_is(self):
        calls = [COPIED, rule([1, 0, 1], [3, 0, 1]), rule([1, 0, 1], [2, 1, 0]), fact(1, 4, 5)]
        self.assertEqual(last(*calls, why(3, 4, 5)), [1, 1, 2, 4, 5])
        self.assertEqual(last(*calls, why(2, 5, 4)), [1, 2, 2, 4, 5])

    def test_a_match_of_1_to_4_values(self):
        self.assertEqual(last(rule([0, 3, 3], [2, 3, 3]), fact(0, 7, 7), why(2, 7, 7)), [1, 0, 1, 7])
        chain = rule([0, 0, 1, 1, 1, 2], [2, 0, 2])
        self.assertEqual(last(chain, fact(0, 4, 5), fact(1, 5, 6), why(2, 4, 6)), [1, 0, 3, 4, 5, 6])
        apart = rule([0, 0, 1, 1, 2, 3], [2, 0, 3])
        self.assertEqual(last(apart, fact(0, 4, 5), fact(1, 6, 7), why(2, 4, 7)), [1, 0, 4, 4, 5, 6, 7])
        back = rule([0, 0, 1, 1, 1, 0], [2, 0, 1])
        self.assertEqual(last(back, fact(0, 4, 5), fact(1, 5, 4), why(2, 4, 5)), [1, 0, 2, 4, 5])

    def test_the_values_stand_in_the_order_in_which_their_places_first_come(self):
        turned = rule([0, 4, 2, 1, 3, 4], [2, 2, 3])
        self.assertEqual(last(turned, fact(0, 8, 1), fact(1, 5, 8), why(2, 1, 5)), [1, 0, 3, 8, 1, 5])

    def test_the_values_are_the_bodys_without_the_unknowns(self):
        calls = [rule([0, 0, 1], [2, 2, 3, 3, 3, 4]), fact(0, 4, 5)]
        self.assertEqual(last(*calls, why(2, 100, 101)), [1, 0, 2, 4, 5])
        self.assertEqual(last(*calls, why(3, 101, 102)), [1, 0, 2, 4, 5])

    def test_several_matches_of_one_rule_in_their_order(self):
        calls = [rule([0, 0, 1], [2, 0, 0]), fact(0, 1, 10), fact(0, 1, 9), fact(0, 2, 0), fact(0, 1, 1)]
        self.assertEqual(last(*calls, why(2, 1, 1)), [3, 0, 2, 1, 1, 0, 2, 1, 9, 0, 2, 1, 10])
        self.assertEqual(last(*calls, gone(0, 1, 9), why(2, 1, 1)), [2, 0, 2, 1, 1, 0, 2, 1, 10])

    def test_several_matches_by_the_first_atoms_fact_then_by_the_seconds(self):
        calls = [rule([1, 0, 1, 0, 1, 2], [2, 0, 2]), fact(0, 6, 3), fact(0, 5, 3), fact(1, 1, 6), fact(1, 1, 5),
                 fact(1, 0, 5)]
        self.assertEqual(last(*calls, why(2, 1, 3)), [2, 0, 3, 1, 5, 3, 0, 3, 1, 6, 3])

    def test_several_rules_in_their_order(self):
        calls = [rule([1, 1, 0], [2, 0, 1]), rule([0, 0, 1], [2, 0, 1]), rule([1, 1, 0, 0, 0, 2], [2, 0, 1]),
                 fact(0, 4, 5), fact(1, 5, 4), fact(0, 4, 3)]
        self.assertEqual(last(*calls, why(2, 4, 5)),
                         [4, 0, 2, 5, 4, 1, 2, 4, 5, 2, 3, 5, 4, 3, 2, 3, 5, 4, 5])

    def test_the_same_rule_twice(self):
        self.assertEqual(last(COPIED, COPIED, fact(0, 4, 5), why(2, 4, 5)), [2, 0, 2, 4, 5, 1, 2, 4, 5])

    def test_a_match_by_which_both_atoms_of_the_head_hand_it_on_counts_once(self):
        turned = rule([0, 0, 1], [2, 0, 1, 2, 1, 0])
        self.assertEqual(last(turned, fact(0, 4, 4), why(2, 4, 4)), [1, 0, 2, 4, 4])
        self.assertEqual(last(rule([0, 0, 1], [2, 0, 1, 2, 0, 1]), fact(0, 4, 5), why(2, 4, 5)), [1, 0, 2, 4, 5])

    def test_either_atom_of_the_head_by_another_match(self):
        turned = rule([0, 0, 1], [2, 0, 1, 2, 1, 0])
        calls = [turned, fact(0, 5, 4), fact(0, 4, 5)]
        self.assertEqual(last(*calls, why(2, 4, 5)), [2, 0, 2, 4, 5, 0, 2, 5, 4])
        self.assertEqual(last(*calls, gone(0, 4, 5), why(2, 4, 5)), [1, 0, 2, 5, 4])

    def test_facts_with_unknowns_as_they_are_named(self):
        calls = [SOMEONE, fact(0, 1, 2), fact(0, 1, 3), gone(0, 1, 2), fact(0, 1, 2)]
        given = told(*calls, why(2, 1, 100), why(2, 1, 101), why(2, 1, 102), why(2, 1, 103))
        self.assertEqual(given[5:], [[-2], [1, 0, 2, 1, 3], [1, 0, 2, 1, 2], [-2]])

    def test_it_is_asked_of_the_target_not_of_what_is_made_one(self):
        calls = [SOMEONE, rule([1, 0, 1], [3, 0, 1]), one(1, 2, [2, 0, 1, 3, 0, 2]), fact(0, 1, 2), fact(1, 1, 7)]
        given = told(*calls, made(), why(2, 1, 100), why(2, 1, 7))
        self.assertEqual(given[5:], [[2, 1, 2, 1, 7, 3, 1, 7], [1, 0, 2, 1, 2], [-2]])

    def test_where_it_clashes_it_is_told_all_the_same(self):
        calls = [COPIED, one(0, 1, [2, 0, 1]), fact(0, 4, 5), made(), why(2, 4, 5), why(2, 4, 4)]
        self.assertEqual(told(*calls)[3:], [[-9, 0, 4, 5], [1, 0, 2, 4, 5], [-2]])


class Refused(unittest.TestCase):
    def test_the_target_has_nothing(self):
        for missing in [(2, 0, 0), (3, 0, 0), (0, 0, 0), (MOST, MOST, MOST)]:
            self.assertEqual(last(why(*missing)), [-2])

    def test_the_target_has_not_that_fact(self):
        calls = [COPIED, SOMEONE, fact(0, 4, 5), fact(0, 6, 6)]
        for missing in [(2, 5, 4), (2, 4, 4), (2, 5, 5), (2, 4, 6), (3, 4, 5), (2, 4, 101), (2, 4, 102), (2, 100, 4),
                        (2, 4, 99), (4, 4, 5), (MOST, 4, 5), (2, MOST, 5), (2, 4, MOST), (MOST, MOST, MOST),
                        (2, 4, 4294967295 - 5)]:
            with self.subTest(missing):
                self.assertEqual(last(*calls, why(*missing)), [-2])

    def test_a_fact_of_the_source_is_none_of_the_targets(self):
        self.assertEqual(last(COPIED, fact(0, 4, 5), why(0, 4, 5)), [-2])
        self.assertEqual(last(COPIED, fact(1, 4, 5), why(1, 4, 5)), [-2])

    def test_it_is_gone(self):
        self.assertEqual(told(COPIED, fact(0, 4, 5), why(2, 4, 5), gone(0, 4, 5), why(2, 4, 5))[2:],
                         [[1, 0, 2, 4, 5], [0, 0, 1, 0, 0, 0], [-2]])
        self.assertEqual(last(COPIED, fact(0, 4, 5), begins(), why(2, 4, 5)), [-2])

    def test_all_is_as_it_was(self):
        calls = [SOMEONE, fact(0, 4, 5), why(2, 4, 101), why(2, 4, 100), fact(0, 6, 6), why(2, 6, 101)]
        self.assertEqual(told(*calls)[2:], [[-2], [1, 0, 2, 4, 5], [2, 1, 0, 0, 0, 0], [1, 0, 2, 6, 6]])


if __name__ == "__main__":
    unittest.main()
