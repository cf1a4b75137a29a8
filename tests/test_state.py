"""state: how many facts the source has, how many matches there are, and the next unknown."""

import unittest

from lines import MOST, ask, begins, fact, gone, last, made, one, rule, state, sure, target, target_after, told, why

COPIED = rule([0, 0, 1], [2, 0, 1])
SOMEONE = rule([0, 0, 1], [2, 0, 2])


class State(unittest.TestCase):
    def test_at_the_beginning(self):
        self.assertEqual(last(state()), [0, 0, 100])

    def test_facts_without_rules(self):
        self.assertEqual(told(fact(0, 1, 2), fact(1, 1, 2), state())[-1], [2, 0, 100])

    def test_rules_without_facts(self):
        self.assertEqual(last(COPIED, SOMEONE, SOMEONE, state()), [0, 0, 100])

    def test_matches_without_unknowns(self):
        self.assertEqual(last(COPIED, fact(0, 1, 2), fact(0, 3, 4), fact(1, 3, 4), state()), [3, 2, 100])

    def test_each_match_is_given_one_for_each_open_place(self):
        for head, amount in ([2, 0, 1], 0), ([2, 0, 2], 1), ([2, 2, 2], 1), ([2, 2, 3], 2), ([2, 2, 3, 3, 3, 2], 2), \
                ([2, 2, 3, 3, 3, 4], 3), ([2, 0, 4, 3, 4, 1], 1):
            with self.subTest(head):
                calls = [rule([0, 0, 1], head), fact(0, 1, 2), fact(0, 3, 4)]
                self.assertEqual(last(*calls, state()), [2, 2, 100 + 2 * amount])

    def test_matches_are_counted_not_facts(self):
        self.assertEqual(last(rule([0, 0, 1], [2, 0, 0]), fact(0, 1, 2), fact(0, 1, 3), state()), [2, 2, 100])
        self.assertEqual(last(rule([0, 0, 1], [2, 0, 1, 3, 0, 1]), fact(0, 1, 2), state()), [1, 1, 100])

    def test_matches_of_two_atoms(self):
        apart = rule([0, 0, 1, 0, 2, 3], [2, 0, 4])
        calls = [apart] + [fact(0, 0, value) for value in range(6)]
        self.assertEqual(last(*calls, state()), [6, 36, 136])
        self.assertEqual(last(*calls, apart, apart, state()), [6, 108, 208])

    def test_matches_of_several_rules(self):
        calls = [COPIED, SOMEONE, rule([1, 0, 0], [3, 0, 1]), fact(0, 1, 2), fact(1, 3, 3), fact(1, 3, 4)]
        self.assertEqual(last(*calls, state()), [3, 3, 102])

    def test_behind_gone_no_unknown_is_given_back(self):
        calls = [SOMEONE, fact(0, 1, 2), fact(0, 3, 4), gone(0, 1, 2)]
        self.assertEqual(last(*calls, state()), [1, 1, 102])
        self.assertEqual(last(*calls, fact(0, 1, 2), state()), [2, 2, 103])
        self.assertEqual(last(*calls, gone(0, 3, 4), state()), [0, 0, 102])

    def test_behind_refusals(self):
        calls = [SOMEONE, COPIED, COPIED, one(0, 1, [3, 0, 1])] + [fact(0, 1, value) for value in range(6)]
        self.assertEqual(last(*calls, state()), [6, 18, 106])
        refused = [rule([], []), SOMEONE, one(0, 0, [2, 0, 1]), fact(0, 1, 6), fact(0, 1, 1), fact(2, 1, 1),
                   fact(0, MOST, 1), gone(0, 2, 2), gone(MOST, 0, 0), ask([0, 1, 2]), why(2, 9, 9)]
        self.assertEqual([given[0] for given in told(*calls, *refused)[10:]],
                         [-1, -7, -1, -7, -4, -1, -1, -2, -2, -1, -2])
        self.assertEqual(last(*calls, *refused, state()), [6, 18, 106])
        for call in refused:
            self.assertEqual(last(*calls, call, state()), [6, 18, 106])

    def test_behind_the_refusals_of_a_clash(self):
        calls = [SOMEONE, COPIED, one(0, 1, [2, 0, 1]), fact(0, 1, 2), made(), sure(), state()]
        self.assertEqual(told(*calls)[4:], [[-9, 0, 1, 2], [-9], [1, 2, 101]])

    def test_behind_begins(self):
        calls = [SOMEONE, fact(0, 1, 2), begins()]
        self.assertEqual(last(*calls, state()), [0, 0, 100])
        self.assertEqual(last(*calls, fact(0, 1, 2), state()), [1, 0, 100])
        self.assertEqual(last(*calls, fact(0, 1, 2), SOMEONE, state()), [1, 1, 101])

    def test_one_rules_and_questions_change_none_of_it(self):
        calls = [SOMEONE, fact(0, 1, 2), fact(0, 1, 3), one(1, 2, [2, 0, 1, 2, 0, 2]), ask([0], [2, 0, 1]), state()]
        self.assertEqual(last(*calls), [2, 2, 102])

    def test_what_is_only_asked_changes_none_of_it(self):
        calls = [SOMEONE, fact(0, 1, 2), target(), made(), sure(), why(2, 1, 100), state(), state()]
        self.assertEqual(told(*calls)[-2:], [[1, 1, 101], [1, 1, 101]])

    def test_the_next_unknown_is_the_one_that_is_given_next(self):
        calls = [SOMEONE, fact(0, 1, 2), gone(0, 1, 2), fact(0, 1, 2)]
        upcoming = last(*calls, state())[2]
        self.assertEqual(target_after(*calls, fact(0, 5, 6)), [(2, 1, 101), (2, 5, upcoming)])


if __name__ == "__main__":
    unittest.main()
