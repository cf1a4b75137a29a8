"""target: what is handed on, and the names of the unknowns in it."""

import unittest

from lines import MOST, ask, begins, fact, gone, last, made, one, rule, sure, target, target_after, told, why

COPIED = rule([0, 0, 1], [2, 0, 1])
SOMEONE = rule([0, 0, 1], [2, 0, 2])


class Target(unittest.TestCase):
    def test_nothing_is_handed_on(self):
        self.assertEqual(last(target()), [0])
        self.assertEqual(last(COPIED, target()), [0])
        self.assertEqual(last(fact(0, 1, 2), target()), [0])
        self.assertEqual(last(COPIED, fact(1, 1, 2), target()), [0])
        self.assertEqual(last(COPIED, fact(0, 1, 2), gone(0, 1, 2), target()), [0])

    def test_how_many_then_each_with_its_table_and_its_values(self):
        self.assertEqual(last(COPIED, fact(0, 1, 2), target()), [1, 2, 1, 2])
        self.assertEqual(last(rule([1, 0, 1], [3, 1, 0]), fact(1, 0, 19), target()), [1, 3, 19, 0])

    def test_by_table_then_by_the_first_value_then_by_the_second(self):
        calls = [rule([0, 0, 1], [3, 0, 1]), rule([1, 0, 1], [2, 1, 0]), fact(0, 10, 1), fact(0, 2, 9),
                 fact(0, 2, 3), fact(1, 7, 4), fact(1, 11, 4), fact(1, 8, 15)]
        self.assertEqual(last(*calls, target()),
                         [6, 2, 4, 7, 2, 4, 11, 2, 15, 8, 3, 2, 3, 3, 2, 9, 3, 10, 1])

    def test_known_values_stand_ahead_of_unknown_ones(self):
        calls = [rule([0, 0, 1], [2, 0, 2, 2, 2, 0]), COPIED, fact(0, 19, 19), fact(0, 3, 19)]
        self.assertEqual(target_after(*calls), [(2, 3, 19), (2, 3, 101), (2, 19, 19), (2, 19, 100),
                                                (2, 100, 19), (2, 101, 3)])

    def test_the_same_facts_of_several_matches_are_one(self):
        self.assertEqual(target_after(rule([0, 0, 1], [2, 0, 0]), fact(0, 1, 2), fact(0, 1, 3)), [(2, 1, 1)])

    def test_the_same_facts_of_several_rules_are_one(self):
        calls = [COPIED, rule([1, 1, 0], [2, 0, 1]), fact(0, 1, 2), fact(1, 2, 1)]
        self.assertEqual(target_after(*calls), [(2, 1, 2)])
        self.assertEqual(target_after(*calls, gone(0, 1, 2)), [(2, 1, 2)])
        self.assertEqual(target_after(*calls, gone(1, 2, 1)), [(2, 1, 2)])
        self.assertEqual(target_after(*calls, gone(1, 2, 1), gone(0, 1, 2)), [])

    def test_the_same_facts_of_both_atoms_of_a_head_are_one(self):
        turned = rule([0, 0, 1], [2, 0, 1, 2, 1, 0])
        self.assertEqual(target_after(turned, fact(0, 4, 4)), [(2, 4, 4)])
        self.assertEqual(target_after(turned, fact(0, 4, 5)), [(2, 4, 5), (2, 5, 4)])

    def test_a_body_of_two_atoms(self):
        chain = rule([0, 0, 1, 1, 1, 2], [2, 0, 2])
        calls = [chain, fact(0, 1, 2), fact(0, 3, 4), fact(1, 2, 5), fact(1, 2, 6), fact(1, 3, 7)]
        self.assertEqual(target_after(*calls), [(2, 1, 5), (2, 1, 6)])

    def test_one_rules_leave_it_as_it_is(self):
        calls = [SOMEONE, one(1, 2, [2, 0, 1, 2, 0, 2]), fact(0, 1, 2), fact(0, 1, 3)]
        self.assertEqual(target_after(*calls), [(2, 1, 100), (2, 1, 101)])
        self.assertEqual(target_after(*calls, made()), [(2, 1, 100), (2, 1, 101)])

    def test_where_it_clashes_it_is_told_all_the_same(self):
        calls = [COPIED, SOMEONE, one(1, 2, [2, 0, 1, 2, 0, 2]), fact(0, 1, 2), fact(0, 1, 3)]
        self.assertEqual(target_after(*calls), [(2, 1, 2), (2, 1, 3), (2, 1, 100), (2, 1, 101)])

    def test_asked_again_it_is_the_same(self):
        given = told(SOMEONE, fact(0, 1, 2), target(), target(), made(), sure(), why(2, 1, 100), ask([]), target())
        self.assertEqual([given[at] for at in (2, 3, 8)], [[1, 2, 1, 100]] * 3)

    def test_as_at_the_beginning_behind_begins(self):
        calls = [SOMEONE, fact(0, 1, 2), begins()]
        self.assertEqual(target_after(*calls), [])
        self.assertEqual(target_after(*calls, fact(0, 3, 4), SOMEONE), [(2, 3, 100)])


class Unknowns(unittest.TestCase):
    def test_from_100_on_in_the_order_in_which_the_open_places_first_come(self):
        self.assertEqual(target_after(rule([0, 0, 1], [3, 4, 2, 2, 2, 3]), fact(0, 7, 8)),
                         [(2, 101, 102), (3, 100, 101)])

    def test_a_place_that_the_body_has_is_not_open(self):
        self.assertEqual(target_after(rule([0, 4, 1, 1, 1, 3], [2, 2, 3, 3, 0, 4]), fact(0, 7, 8), fact(1, 8, 9)),
                         [(2, 100, 9), (3, 101, 7)])

    def test_each_match_has_its_own(self):
        self.assertEqual(target_after(SOMEONE, fact(0, 1, 2), fact(0, 1, 3)), [(2, 1, 100), (2, 1, 101)])
        self.assertEqual(target_after(SOMEONE, SOMEONE, fact(0, 1, 2)), [(2, 1, 100), (2, 1, 101)])

    def test_they_stay_while_their_match_is_there(self):
        calls = [SOMEONE, fact(0, 5, 5), fact(0, 1, 1)]
        first = [(2, 1, 101), (2, 5, 100)]
        self.assertEqual(target_after(*calls), first)
        calls += [rule([0, 0, 1], [3, 2, 0])]
        both = first + [(3, 102, 1), (3, 103, 5)]
        self.assertEqual(target_after(*calls), both)
        calls += [one(0, 2, [2, 0, 1, 2, 2, 3]), fact(1, 1, 1), gone(1, 1, 1), ask([], [2, 0, 1])]
        self.assertEqual(target_after(*calls), both)
        self.assertEqual(target_after(*calls, gone(0, 5, 5)), [(2, 1, 101), (3, 102, 1)])

    def test_a_match_that_comes_again_is_given_new_ones(self):
        calls = [SOMEONE, fact(0, 1, 2), fact(0, 3, 4), gone(0, 1, 2), fact(0, 1, 2)]
        self.assertEqual(target_after(*calls), [(2, 1, 102), (2, 3, 101)])
        self.assertEqual(target_after(*calls, gone(0, 3, 4), fact(0, 3, 4)), [(2, 1, 102), (2, 3, 103)])

    def test_a_match_of_two_facts_is_gone_with_either(self):
        chain = rule([0, 0, 1, 1, 1, 2], [2, 0, 3])
        calls = [chain, fact(0, 1, 2), fact(1, 2, 3), fact(1, 2, 4)]
        self.assertEqual(target_after(*calls), [(2, 1, 100), (2, 1, 101)])
        self.assertEqual(target_after(*calls, gone(1, 2, 3), fact(1, 2, 3)), [(2, 1, 101), (2, 1, 102)])
        self.assertEqual(target_after(*calls, gone(0, 1, 2), fact(0, 1, 2)), [(2, 1, 102), (2, 1, 103)])

    def test_new_ones_by_the_rules_order_then_by_the_matches(self):
        calls = [fact(0, 2, 9), fact(0, 1, 9), rule([0, 0, 1, 0, 2, 1], [2, 0, 3, 3, 2, 3])]
        self.assertEqual(target_after(*calls), [(2, 1, 100), (2, 1, 101), (2, 2, 102), (2, 2, 103),
                                                (3, 1, 100), (3, 1, 102), (3, 2, 101), (3, 2, 103)])
        calls += [rule([0, 1, 0], [3, 2, 2]), fact(0, 0, 9)]
        self.assertEqual(target_after(*calls), [
            (2, 0, 106), (2, 0, 107), (2, 0, 108), (2, 1, 100), (2, 1, 101), (2, 1, 109),
            (2, 2, 102), (2, 2, 103), (2, 2, 110),
            (3, 0, 106), (3, 0, 109), (3, 0, 110), (3, 1, 100), (3, 1, 102), (3, 1, 107),
            (3, 2, 101), (3, 2, 103), (3, 2, 108), (3, 104, 104), (3, 105, 105), (3, 111, 111)])

    def test_matches_stand_by_their_facts_not_by_their_places(self):
        self.assertEqual(target_after(fact(0, 1, 8), fact(0, 2, 7), rule([0, 4, 0], [2, 4, 1])),
                         [(2, 1, 100), (2, 2, 101)])
        calls = [fact(1, 1, 8), fact(0, 2, 7), fact(1, 0, 9), rule([1, 0, 1, 0, 2, 3], [2, 0, 4])]
        self.assertEqual(target_after(*calls), [(2, 0, 100), (2, 1, 101)])

    def test_a_rule_without_open_places_is_given_none(self):
        self.assertEqual(target_after(COPIED, fact(0, 1, 2), rule([0, 0, 1], [3, 0, 2])),
                         [(2, 1, 2), (3, 1, 100)])

    def test_a_refusal_gives_none(self):
        calls = [SOMEONE, fact(0, 1, 2), fact(0, 1, 2), fact(2, 1, 2), rule([0, 0, 1], [2, 0, 5]),
                 gone(0, 2, 1), fact(0, MOST, 1), fact(0, 3, 4)]
        self.assertEqual(target_after(*calls), [(2, 1, 100), (2, 3, 101)])


if __name__ == "__main__":
    unittest.main()
