"""made: the target made one, how often, and the clash by which it can't be."""

import unittest

from lines import ask, begins, fact, gone, last, made, one, rule, target, told

COPIED = rule([0, 0, 1], [2, 0, 1])
COPIED_THERE = rule([1, 0, 1], [3, 0, 1])
SOMEONE = rule([0, 0, 1], [2, 0, 2])
THROUGH = rule([0, 0, 1], [2, 0, 2, 3, 2, 1])
BOTH_ONE = one(0, 1, [2, 0, 1])
SAME_SECOND = one(1, 2, [2, 0, 1, 2, 0, 2])
SAME_SECOND_THERE = one(1, 2, [3, 0, 1, 3, 0, 2])


class Made(unittest.TestCase):
    def test_nothing(self):
        self.assertEqual(last(made()), [0, 0])
        self.assertEqual(last(COPIED, SAME_SECOND, made()), [0, 0])

    def test_without_one_rules_it_is_the_target(self):
        calls = [THROUGH, fact(0, 4, 5), fact(0, 1, 2)]
        self.assertEqual(last(*calls, made()), [4, 0, 2, 1, 101, 2, 4, 100, 3, 100, 5, 3, 101, 2])

    def test_with_one_rules_that_are_kept_it_is_the_target(self):
        self.assertEqual(last(COPIED, SAME_SECOND, BOTH_ONE, fact(0, 1, 1), fact(0, 2, 2), made()),
                         [2, 0, 2, 1, 1, 2, 2, 2])

    def test_of_two_unknowns_the_greater_is_put_as_the_lesser(self):
        calls = [SOMEONE, SAME_SECOND, fact(0, 1, 2), fact(0, 1, 3)]
        self.assertEqual(last(*calls, made()), [1, 1, 2, 1, 100])
        self.assertEqual(last(SOMEONE, one(2, 1, [2, 0, 1, 2, 0, 2]), *calls[2:], made()), [1, 1, 2, 1, 100])

    def test_an_unknown_is_put_as_a_known_one(self):
        calls = [SOMEONE, COPIED, SAME_SECOND, fact(0, 1, 2)]
        self.assertEqual(last(*calls, made()), [1, 1, 2, 1, 2])

    def test_it_is_put_everywhere(self):
        # (2,1,100) (3,100,2) and (2,1,101) (3,101,3): 101 is put as 100 in table 3, too.
        calls = [THROUGH, SAME_SECOND, fact(0, 1, 2), fact(0, 1, 3)]
        self.assertEqual(last(*calls, made()), [3, 1, 2, 1, 100, 3, 100, 2, 3, 100, 3])

    def test_it_is_put_in_both_values_of_a_fact(self):
        calls = [rule([0, 0, 1], [2, 0, 2, 3, 2, 2]), COPIED, SAME_SECOND, fact(0, 1, 7)]
        self.assertEqual(last(*calls, made()), [2, 1, 2, 1, 7, 3, 7, 7])

    def test_the_facts_stand_in_their_new_order(self):
        # (2,1,100) (3,100,9), (2,2,101) (3,101,8), and (2,2,5): 101 is 5, which stands ahead of 100.
        calls = [THROUGH, rule([1, 0, 1], [2, 0, 1]), SAME_SECOND, fact(0, 1, 9), fact(0, 2, 8), fact(1, 2, 5)]
        self.assertEqual(last(*calls, made()), [4, 1, 2, 1, 100, 2, 2, 5, 3, 5, 8, 3, 100, 9])

    def test_how_often_is_counted_by_the_values_not_by_the_facts(self):
        calls = [rule([0, 0, 1], [2, 0, 2, 3, 2, 1]), SAME_SECOND]
        calls += [fact(0, 1, value) for value in range(2, 6)]
        self.assertEqual(last(*calls, made()), [5, 3, 2, 1, 100, 3, 100, 2, 3, 100, 3, 3, 100, 4, 3, 100, 5])
        self.assertEqual(last(*calls, gone(0, 1, 2), made()), [4, 2, 2, 1, 101, 3, 101, 3, 3, 101, 4, 3, 101, 5])

    def test_one_after_another_up_to_a_known_one(self):
        # 100 and 101 are one by the first fact of table 2, then both are 7.
        calls = [SOMEONE, SAME_SECOND, fact(0, 1, 2), fact(0, 1, 3), rule([1, 0, 1], [2, 0, 1]), fact(1, 1, 7)]
        self.assertEqual(last(*calls, made()), [1, 2, 2, 1, 7])

    def test_what_is_made_one_by_a_later_one_rule_is_looked_at_by_an_earlier_one(self):
        # Only when 102 is put as 100 have (3,100,101) and (3,102,103) the same first value.
        calls = [rule([0, 0, 1], [2, 0, 2, 3, 2, 3]), SAME_SECOND_THERE, SAME_SECOND, fact(0, 1, 2), fact(0, 1, 3)]
        self.assertEqual(last(*calls, made()), [2, 2, 2, 1, 100, 3, 100, 101])

    def test_atoms_without_a_place_in_common(self):
        calls = [SOMEONE, one(1, 3, [2, 0, 1, 2, 2, 3]), fact(0, 1, 2), fact(0, 2, 2), fact(0, 3, 2)]
        self.assertEqual(last(*calls, made()), [3, 2, 2, 1, 100, 2, 2, 100, 2, 3, 100])

    def test_the_target_itself_stays_as_it_is(self):
        calls = [SOMEONE, SAME_SECOND, fact(0, 1, 2), fact(0, 1, 3), made(), target(), made()]
        self.assertEqual(told(*calls)[4:], [[1, 1, 2, 1, 100], [2, 2, 1, 100, 2, 1, 101], [1, 1, 2, 1, 100]])

    def test_they_are_two_again_when_what_made_them_one_is_gone(self):
        calls = [SOMEONE, rule([1, 0, 1], [2, 0, 1]), SAME_SECOND, fact(0, 1, 2), fact(1, 1, 7)]
        self.assertEqual(last(*calls, made()), [1, 1, 2, 1, 7])
        self.assertEqual(last(*calls, gone(1, 1, 7), made()), [1, 0, 2, 1, 100])

    def test_as_at_the_beginning_behind_begins(self):
        calls = [SOMEONE, SAME_SECOND, fact(0, 1, 2), fact(0, 1, 3), begins()]
        self.assertEqual(last(*calls, made()), [0, 0])
        self.assertEqual(last(*calls, SOMEONE, fact(0, 1, 2), fact(0, 1, 3), made()), [2, 0, 2, 1, 100, 2, 1, 101])
        self.assertEqual(last(COPIED, BOTH_ONE, fact(0, 1, 2), begins(), made()), [0, 0])

    def test_a_refused_one_rule_makes_nothing_one(self):
        calls = [SOMEONE, fact(0, 1, 2), fact(0, 1, 3), one(1, 1, [2, 0, 1, 2, 0, 2]), one(1, 5, [2, 0, 1]), made()]
        self.assertEqual(told(*calls)[3:], [[-1], [-1], [2, 0, 2, 1, 100, 2, 1, 101]])


class Clashes(unittest.TestCase):
    def test_the_one_rule_and_the_two_values(self):
        self.assertEqual(last(COPIED, SAME_SECOND, fact(0, 1, 2), fact(0, 1, 3), made()), [-9, 0, 2, 3])

    def test_the_lesser_value_stands_first(self):
        for first, second in ((0, 1), (1, 0)):
            one_rule = one(first, second, [2, 0, 1])
            self.assertEqual(last(COPIED, one_rule, fact(0, 5, 3), made()), [-9, 0, 3, 5])
            self.assertEqual(last(COPIED, one_rule, fact(0, 3, 5), made()), [-9, 0, 3, 5])
            self.assertEqual(last(COPIED, one_rule, fact(0, 0, 19), made()), [-9, 0, 0, 19])

    def test_the_first_one_rule_that_is_not_kept_decides(self):
        there = one(0, 1, [3, 0, 1])
        calls = [COPIED, COPIED_THERE, fact(0, 1, 2), fact(1, 3, 4)]
        self.assertEqual(last(*calls, BOTH_ONE, there, made()), [-9, 0, 1, 2])
        self.assertEqual(last(*calls, there, BOTH_ONE, made()), [-9, 0, 3, 4])
        self.assertEqual(last(*calls, SAME_SECOND, there, BOTH_ONE, made()), [-9, 1, 3, 4])
        self.assertEqual(last(*calls, SAME_SECOND, SAME_SECOND_THERE, BOTH_ONE, made()), [-9, 2, 1, 2])

    def test_its_first_match_decides(self):
        calls = [COPIED, BOTH_ONE, fact(0, 4, 1), fact(0, 2, 2), fact(0, 3, 9), fact(0, 3, 7)]
        self.assertEqual(last(*calls, made()), [-9, 0, 3, 7])
        calls = [COPIED, one(1, 3, [2, 0, 1, 2, 2, 3]), fact(0, 3, 6), fact(0, 2, 4), fact(0, 1, 5)]
        self.assertEqual(last(*calls, made()), [-9, 0, 4, 5])

    def test_the_first_match_is_by_the_first_atoms_fact_then_by_the_seconds(self):
        # The first facts of both tables have the same second value, so they are not what it clashes by.
        calls = [COPIED, COPIED_THERE, fact(0, 1, 8), fact(0, 2, 7), fact(1, 5, 8), fact(1, 6, 0)]
        self.assertEqual(last(*calls, one(1, 3, [2, 0, 1, 3, 2, 3]), made()), [-9, 0, 0, 8])
        self.assertEqual(last(*calls, one(1, 3, [3, 2, 3, 2, 0, 1]), made()), [-9, 0, 7, 8])

    def test_both_values_in_the_second_atom(self):
        calls = [COPIED, COPIED_THERE, one(1, 2, [2, 0, 0, 3, 1, 2]), fact(1, 4, 4), fact(1, 6, 5), fact(0, 1, 2)]
        self.assertEqual(last(*calls, made()), [3, 0, 2, 1, 2, 3, 4, 4, 3, 6, 5])
        self.assertEqual(last(*calls, fact(0, 3, 3), made()), [-9, 0, 5, 6])

    def test_unknowns_are_made_one_ahead_of_a_later_one_rules_clash(self):
        # One-rule 1 clashes from the start by (3,7,8); one-rule 0 first puts 100 as 1, and then clashes itself.
        calls = [rule([0, 0, 1], [2, 2, 0, 2, 2, 1]), COPIED_THERE, BOTH_ONE, one(0, 1, [3, 0, 1]),
                 fact(1, 7, 8), fact(0, 1, 1)]
        self.assertEqual(last(*calls, made()), [-9, 1, 7, 8])
        self.assertEqual(last(*calls, fact(0, 1, 2), made()), [-9, 0, 1, 2])

    def test_a_later_one_rules_clash_stands_ahead_of_none_that_comes_later(self):
        # (3,100,2) and (3,101,3) clash by one-rule 0, but only when one-rule 1 has put 101 as 100.
        calls = [THROUGH, SAME_SECOND_THERE, SAME_SECOND, fact(0, 1, 2), fact(0, 1, 3)]
        self.assertEqual(last(*calls, made()), [-9, 0, 2, 3])

    def test_known_values_that_an_unknown_was_put_as(self):
        # 100 is 4 by (2,100,4), and then 4 and 9 are to be one.
        calls = [rule([0, 0, 1], [2, 2, 0, 2, 2, 1]), BOTH_ONE, fact(0, 9, 4)]
        self.assertEqual(last(*calls, made()), [-9, 0, 4, 9])

    def test_it_is_told_each_time(self):
        calls = [COPIED, BOTH_ONE, fact(0, 1, 2), made(), made(), fact(0, 0, 3), made()]
        self.assertEqual(told(*calls)[3:], [[-9, 0, 1, 2], [-9, 0, 1, 2], [2, 1, 0, 1, 0, 0], [-9, 0, 0, 3]])

    def test_it_goes_away_when_a_fact_is_taken_back(self):
        calls = [THROUGH, SAME_SECOND, SAME_SECOND_THERE, fact(0, 1, 2), fact(0, 1, 3), made(), gone(0, 1, 2),
                 made(), fact(0, 1, 2), made(), gone(0, 1, 3), made()]
        self.assertEqual([told(*calls)[at] for at in (5, 7, 9, 11)],
                         [[-9, 1, 2, 3], [2, 0, 2, 1, 101, 3, 101, 3], [-9, 1, 2, 3], [2, 0, 2, 1, 102, 3, 102, 2]])

    def test_another_is_told_when_the_first_goes_away(self):
        calls = [COPIED, BOTH_ONE, fact(0, 1, 2), fact(0, 3, 4), made(), gone(0, 1, 2), made()]
        self.assertEqual([told(*calls)[at] for at in (4, 6)], [[-9, 0, 1, 2], [-9, 0, 3, 4]])

    def test_what_is_asked_has_no_part_in_it(self):
        calls = [COPIED, BOTH_ONE, fact(0, 1, 2), ask([0], [2, 0, 1]), made()]
        self.assertEqual(last(*calls), [-9, 0, 1, 2])


if __name__ == "__main__":
    unittest.main()
