"""The news: its five numbers, one after another."""

import unittest

from lines import ask, fact, gone, last, one, rule, told

COPIED = rule([0, 0, 1], [2, 0, 1])
SAME_FIRST_SAME_SECOND = one(1, 2, [2, 0, 1, 2, 0, 2])


def all_news(*calls):
    """The news of each call that has some."""
    return [given[1:] for given in told(*calls) if len(given) == 6]


class ComeAndLeft(unittest.TestCase):
    def test_facts_come_and_leave(self):
        self.assertEqual(all_news(COPIED, fact(0, 1, 2), fact(0, 3, 4), gone(0, 1, 2), gone(0, 3, 4)),
                         [[0] * 5, [1, 0, 0, 0, 0], [1, 0, 0, 0, 0], [0, 1, 0, 0, 0], [0, 1, 0, 0, 0]])

    def test_only_the_bodys_table_matches(self):
        self.assertEqual(last(COPIED, fact(1, 1, 2)), [1, 0, 0, 0, 0, 0])
        self.assertEqual(last(rule([1, 0, 1], [2, 0, 1]), fact(1, 1, 2)), [1, 1, 0, 0, 0, 0])

    def test_a_head_of_two_atoms(self):
        self.assertEqual(last(rule([0, 0, 1], [2, 0, 1, 3, 0, 1]), fact(0, 1, 2)), [1, 2, 0, 0, 0, 0])
        self.assertEqual(last(rule([0, 0, 1], [2, 0, 1, 2, 1, 0]), fact(0, 1, 2)), [1, 2, 0, 0, 0, 0])
        self.assertEqual(last(rule([0, 0, 1], [2, 0, 1, 2, 1, 0]), fact(0, 2, 2)), [1, 1, 0, 0, 0, 0])
        self.assertEqual(last(rule([0, 0, 1], [2, 0, 1, 2, 0, 1]), fact(0, 1, 2)), [1, 1, 0, 0, 0, 0])

    def test_a_place_twice_in_an_atom_of_the_body(self):
        same = rule([0, 3, 3], [2, 3, 0])
        self.assertEqual(all_news(same, fact(0, 1, 2), fact(0, 2, 2), gone(0, 1, 2)),
                         [[0] * 5, [0] * 5, [1, 0, 0, 0, 0], [0] * 5])

    def test_a_body_of_two_atoms_that_share_a_place(self):
        chain = rule([0, 0, 1, 1, 1, 2], [2, 0, 2])
        calls = [chain, fact(0, 1, 2), fact(1, 3, 4), fact(1, 2, 5), fact(1, 2, 6), fact(0, 7, 2), gone(0, 1, 2)]
        self.assertEqual([news[:2] for news in all_news(*calls)],
                         [[0, 0], [0, 0], [0, 0], [1, 0], [1, 0], [2, 0], [0, 2]])

    def test_two_atoms_of_one_table_may_be_matched_by_one_fact(self):
        chain = rule([0, 0, 1, 0, 1, 2], [2, 0, 2])
        self.assertEqual(last(chain, fact(0, 1, 1)), [1, 1, 0, 0, 0, 0])
        apart = rule([0, 0, 1, 0, 2, 3], [2, 0, 2])
        self.assertEqual([news[:2] for news in all_news(apart, fact(0, 1, 2), fact(0, 3, 4), fact(0, 5, 6))],
                         [[0, 0], [1, 0], [3, 0], [5, 0]])

    def test_two_atoms_that_share_both_places(self):
        there_and_back = rule([0, 0, 1, 1, 1, 0], [2, 0, 1])
        calls = [there_and_back, fact(0, 1, 2), fact(1, 1, 2), fact(1, 2, 1), gone(1, 1, 2), gone(0, 1, 2)]
        self.assertEqual([news[:2] for news in all_news(*calls)],
                         [[0, 0], [0, 0], [0, 0], [1, 0], [0, 0], [0, 1]])

    def test_the_same_fact_handed_on_by_several_matches(self):
        first_twice = rule([0, 0, 1], [2, 0, 0])
        calls = [first_twice, fact(0, 1, 2), fact(0, 1, 3), gone(0, 1, 2), gone(0, 1, 3)]
        self.assertEqual(all_news(*calls), [[0] * 5, [1, 0, 0, 0, 0], [0] * 5, [0] * 5, [0, 1, 0, 0, 0]])

    def test_the_same_fact_handed_on_by_several_rules(self):
        calls = [COPIED, rule([1, 1, 0], [2, 0, 1]), fact(0, 1, 2), fact(1, 2, 1), gone(0, 1, 2), gone(1, 2, 1)]
        self.assertEqual(all_news(*calls)[2:], [[1, 0, 0, 0, 0], [0] * 5, [0] * 5, [0, 1, 0, 0, 0]])

    def test_each_match_has_its_own_unknowns(self):
        someone = rule([0, 0, 1], [2, 0, 2])
        calls = [someone, fact(0, 1, 2), fact(0, 1, 3), gone(0, 1, 2), gone(0, 1, 3)]
        self.assertEqual([news[:2] for news in all_news(*calls)], [[0, 0], [1, 0], [1, 0], [0, 1], [0, 1]])

    def test_the_same_rule_twice_gives_unknowns_twice(self):
        someone = rule([0, 0, 1], [2, 0, 2, 2, 2, 3])
        self.assertEqual(last(someone, someone, fact(0, 1, 2)), [1, 4, 0, 0, 0, 0])

    def test_who_stays_is_no_news(self):
        someone = rule([0, 0, 1], [2, 2, 3])
        calls = [someone, fact(0, 5, 5), fact(0, 1, 1), fact(1, 1, 1), someone, rule([1, 0, 1], [2, 2, 2]),
                 gone(1, 1, 1)]
        self.assertEqual([news[:2] for news in all_news(*calls)],
                         [[0, 0], [1, 0], [1, 0], [0, 0], [2, 0], [1, 0], [0, 1]])

    def test_no_unknown_is_given_twice(self):
        someone = rule([0, 0, 1], [2, 2, 2])
        calls = [someone, fact(0, 1, 1), fact(0, 2, 2), gone(0, 1, 1), fact(0, 3, 3), gone(0, 3, 3), fact(0, 1, 1)]
        self.assertEqual([news[:2] for news in all_news(*calls)],
                         [[0, 0], [1, 0], [1, 0], [0, 1], [1, 0], [0, 1], [1, 0]])

    def test_a_rule_that_comes_after_the_facts(self):
        calls = [fact(0, 1, 2), fact(0, 3, 4), fact(1, 2, 9), rule([0, 0, 1], [2, 0, 2]), COPIED, COPIED]
        self.assertEqual(all_news(*calls)[3:], [[2, 0, 0, 0, 0], [2, 0, 0, 0, 0], [0] * 5])

    def test_new_matches_of_several_rules_at_once(self):
        calls = [COPIED, rule([0, 0, 1], [3, 0, 2]), rule([0, 0, 1, 0, 1, 0], [2, 3, 4]),
                 fact(0, 1, 2), fact(0, 2, 1), gone(0, 1, 2)]
        self.assertEqual([news[:2] for news in all_news(*calls)[3:]], [[2, 0], [4, 0], [0, 4]])

    def test_what_is_made_one_leaves_the_target_as_it_is(self):
        calls = [rule([0, 0, 1], [2, 0, 2]), fact(0, 1, 2), SAME_FIRST_SAME_SECOND, fact(0, 1, 3), fact(0, 1, 4),
                 gone(0, 1, 2)]
        self.assertEqual(all_news(*calls)[1:], [[1, 0, 0, 0, 0], [0] * 5, [1, 0, 0, 0, 0], [1, 0, 0, 0, 0],
                                                [0, 1, 0, 0, 0]])


class Clash(unittest.TestCase):
    def test_it_comes_by_a_fact_and_goes_with_it(self):
        calls = [COPIED, SAME_FIRST_SAME_SECOND, fact(0, 1, 2), fact(0, 1, 3), fact(0, 4, 4), gone(0, 1, 2)]
        self.assertEqual([news[2] for news in all_news(*calls)], [0, 0, 0, 1, 1, 0])

    def test_it_comes_by_a_one_rule(self):
        calls = [COPIED, fact(0, 1, 2), fact(0, 1, 3), SAME_FIRST_SAME_SECOND, gone(0, 1, 3)]
        self.assertEqual([news[2] for news in all_news(*calls)], [0, 0, 0, 1, 0])

    def test_it_comes_by_a_rule(self):
        calls = [SAME_FIRST_SAME_SECOND, fact(0, 1, 2), fact(0, 1, 3), COPIED, gone(0, 1, 3)]
        self.assertEqual([news[2] for news in all_news(*calls)], [0, 0, 0, 1, 0])

    def test_an_unknown_never_clashes_with_a_known_one(self):
        calls = [COPIED, rule([0, 0, 1], [2, 0, 2]), SAME_FIRST_SAME_SECOND, fact(0, 1, 2)]
        self.assertEqual(last(*calls), [1, 2, 0, 0, 0, 0])

    def test_it_comes_of_unknowns_that_are_made_one(self):
        # (0,1,2): (2,1,x) (3,x,2). (0,1,3): (2,1,y) (3,y,3). x and y are one, and then 2 and 3 are to be.
        calls = [rule([0, 0, 1], [2, 0, 2, 3, 2, 1]), SAME_FIRST_SAME_SECOND, one(1, 2, [3, 0, 1, 3, 0, 2]),
                 fact(0, 1, 2), fact(0, 1, 3), gone(0, 1, 2), fact(0, 2, 2)]
        self.assertEqual([news[2] for news in all_news(*calls)], [0, 0, 0, 0, 1, 0, 0])

    def test_it_comes_of_a_later_one_rule_that_an_earlier_one_waits_for(self):
        calls = [rule([0, 0, 1], [2, 0, 2, 3, 2, 1]), one(1, 2, [3, 0, 1, 3, 0, 2]), SAME_FIRST_SAME_SECOND,
                 fact(0, 1, 2), fact(0, 1, 3)]
        self.assertEqual([news[2] for news in all_news(*calls)], [0, 0, 0, 0, 1])

    def test_an_unknown_that_is_to_be_two_known_ones(self):
        # x is to be 1 and 2: first it is put as 1 everywhere, then 1 and 2 clash.
        calls = [rule([0, 0, 1], [2, 2, 0, 2, 2, 1]), one(0, 1, [2, 0, 1]), fact(0, 3, 3), fact(0, 1, 2)]
        self.assertEqual([news[2] for news in all_news(*calls)], [0, 0, 0, 1])

    def test_a_one_rule_of_one_atom(self):
        calls = [COPIED, one(0, 1, [2, 0, 1]), fact(0, 2, 2), fact(0, 1, 2), gone(0, 1, 2)]
        self.assertEqual([news[2] for news in all_news(*calls)], [0, 0, 0, 1, 0])

    def test_a_one_rule_over_both_tables(self):
        calls = [COPIED, rule([1, 0, 1], [3, 0, 1]), one(1, 2, [2, 0, 1, 3, 0, 2]), fact(0, 1, 2), fact(1, 2, 3),
                 fact(1, 1, 2), fact(1, 1, 3)]
        self.assertEqual([news[2] for news in all_news(*calls)], [0, 0, 0, 0, 0, 0, 1])

    def test_both_places_in_the_second_atom(self):
        calls = [COPIED, rule([1, 0, 1], [3, 0, 1]), one(1, 2, [2, 0, 0, 3, 1, 2]), fact(1, 4, 5), fact(0, 1, 2),
                 fact(0, 3, 3)]
        self.assertEqual([news[2] for news in all_news(*calls)], [0, 0, 0, 0, 0, 1])

    def test_both_places_in_the_first_atom_with_a_second_to_be_matched(self):
        calls = [COPIED, rule([1, 0, 1], [3, 0, 1]), one(0, 1, [2, 0, 1, 3, 1, 2]), fact(0, 1, 2), fact(1, 1, 1),
                 fact(1, 2, 7)]
        self.assertEqual([news[2] for news in all_news(*calls)], [0, 0, 0, 0, 0, 1])

    def test_atoms_without_a_place_in_common(self):
        calls = [COPIED, one(1, 3, [2, 0, 1, 2, 2, 3]), fact(0, 1, 5), fact(0, 2, 5), fact(0, 3, 6)]
        self.assertEqual([news[2] for news in all_news(*calls)], [0, 0, 0, 0, 1])

    def test_as_long_as_it_clashes_it_is_told_of_each_change(self):
        calls = [COPIED, SAME_FIRST_SAME_SECOND, fact(0, 1, 2), fact(0, 1, 3), fact(1, 0, 0),
                 rule([1, 0, 1], [3, 0, 1]), one(0, 1, [3, 0, 1]), gone(1, 0, 0)]
        self.assertEqual([news[2] for news in all_news(*calls)][3:], [1, 1, 1, 1, 1])

    def test_no_fact_no_clash(self):
        calls = [SAME_FIRST_SAME_SECOND, one(0, 1, [2, 0, 1]), COPIED]
        self.assertEqual([news[2] for news in all_news(*calls)], [0, 0, 0])


class Sure(unittest.TestCase):
    def sure(self, *calls):
        return [news[3:] for news in all_news(*calls)]

    def test_one_place(self):
        calls = [COPIED, ask([1], [2, 0, 1]), fact(0, 1, 2), fact(0, 3, 2), fact(0, 3, 4), gone(0, 1, 2),
                 gone(0, 3, 2)]
        self.assertEqual(self.sure(*calls), [[0, 0], [1, 0], [0, 0], [1, 0], [0, 0], [0, 1]])

    def test_two_places(self):
        calls = [COPIED, ask([1, 0], [2, 0, 1]), fact(0, 1, 2), fact(0, 2, 1), gone(0, 1, 2)]
        self.assertEqual(self.sure(*calls), [[0, 0], [1, 0], [1, 0], [0, 1]])

    def test_two_places_of_two_atoms(self):
        calls = [COPIED, ask([3, 0], [2, 0, 1, 2, 2, 3]), fact(0, 1, 2), fact(0, 3, 4), fact(0, 1, 4),
                 gone(0, 1, 2)]
        self.assertEqual(self.sure(*calls), [[0, 0], [1, 0], [3, 0], [0, 0], [0, 2]])

    def test_the_order_of_the_places_makes_rows_differ(self):
        # The first alternative gives (1, 2), the second (2, 1), for the same fact.
        calls = [COPIED, ask([0, 1], [2, 0, 1], [2, 1, 0]), fact(0, 1, 2), fact(0, 2, 1), fact(0, 3, 3)]
        self.assertEqual(self.sure(*calls), [[0, 0], [2, 0], [0, 0], [1, 0]])

    def test_places_of_the_second_atom_ahead_of_the_firsts(self):
        # Both alternatives give the value of table 2's first place, then that of table 3's.
        calls = [COPIED, rule([1, 0, 1], [3, 0, 1]), ask([0, 2], [3, 2, 3, 2, 0, 1], [2, 0, 1, 3, 2, 3]),
                 fact(0, 1, 9), fact(1, 2, 9)]
        self.assertEqual(self.sure(*calls), [[0, 0], [0, 0], [0, 0], [1, 0]])

    def test_the_same_place_twice(self):
        calls = [COPIED, ask([0, 0], [2, 0, 1]), fact(0, 1, 2), fact(0, 1, 3), fact(0, 2, 3)]
        self.assertEqual(self.sure(*calls), [[0, 0], [1, 0], [0, 0], [1, 0]])

    def test_no_places(self):
        calls = [COPIED, ask([], [2, 0, 1, 2, 1, 0]), fact(0, 1, 2), fact(0, 2, 1), fact(0, 3, 3), gone(0, 2, 1),
                 gone(0, 3, 3)]
        self.assertEqual(self.sure(*calls), [[0, 0], [0, 0], [1, 0], [0, 0], [0, 0], [0, 1]])

    def test_no_places_asks_whether_there_is_anyone_known_or_not(self):
        calls = [rule([0, 0, 1], [2, 2, 3]), ask([], [2, 0, 1]), fact(0, 1, 2), gone(0, 1, 2)]
        self.assertEqual(self.sure(*calls), [[0, 0], [1, 0], [0, 1]])

    def test_no_alternatives(self):
        for places in ([], [0], [0, 9]):
            self.assertEqual(self.sure(COPIED, ask(places), fact(0, 1, 2), gone(0, 1, 2)), [[0, 0]] * 3)

    def test_no_question(self):
        self.assertEqual(self.sure(COPIED, fact(0, 1, 2), gone(0, 1, 2)), [[0, 0]] * 3)

    def test_two_alternatives_that_give_the_same_row(self):
        calls = [COPIED, rule([1, 0, 1], [3, 0, 1]), ask([0], [2, 0, 1], [3, 0, 1]), fact(0, 1, 2), fact(1, 1, 3),
                 fact(1, 2, 3), gone(0, 1, 2), gone(1, 1, 3)]
        self.assertEqual(self.sure(*calls), [[0, 0], [0, 0], [1, 0], [0, 0], [1, 0], [0, 0], [0, 1]])

    def test_two_alternatives_of_no_places(self):
        calls = [COPIED, rule([1, 0, 1], [3, 0, 1]), ask([], [2, 0, 1], [3, 0, 1]), fact(0, 1, 2), fact(1, 1, 3),
                 gone(0, 1, 2), gone(1, 1, 3)]
        self.assertEqual(self.sure(*calls), [[0, 0], [0, 0], [1, 0], [0, 0], [0, 0], [0, 1]])

    def test_a_row_with_an_unknown_is_not_sure(self):
        someone = rule([0, 0, 1], [2, 0, 2])
        self.assertEqual(self.sure(someone, ask([1], [2, 0, 1]), fact(0, 1, 2)), [[0, 0], [0, 0]])
        self.assertEqual(self.sure(someone, ask([0, 1], [2, 0, 1]), fact(0, 1, 2)), [[0, 0], [0, 0]])
        self.assertEqual(self.sure(someone, ask([3, 0], [2, 0, 1, 2, 2, 3]), fact(0, 1, 2)), [[0, 0], [0, 0]])
        self.assertEqual(self.sure(someone, ask([0], [2, 0, 1]), fact(0, 1, 2)), [[0, 0], [1, 0]])

    def test_a_row_may_be_matched_through_an_unknown(self):
        through = rule([0, 0, 1], [2, 0, 2, 3, 2, 1])
        self.assertEqual(self.sure(through, ask([0, 2], [2, 0, 1, 3, 1, 2]), fact(0, 1, 2), fact(0, 3, 4)),
                         [[0, 0], [1, 0], [1, 0]])

    def test_it_becomes_sure_by_what_is_made_one(self):
        through = rule([0, 0, 1], [2, 0, 2, 3, 2, 1])
        asked = ask([0, 2], [2, 0, 1, 3, 1, 2])
        # (0,1,2): (2,1,x) (3,x,2). (0,1,3): (2,1,y) (3,y,3). (0,4,3): (2,4,z) (3,z,3). With x and y one no row
        # is new; with y and z one, too, (4,2) is. Without y neither (1,3) nor (4,2) is left.
        calls = [through, asked, fact(0, 1, 2), fact(0, 1, 3), fact(0, 4, 3), SAME_FIRST_SAME_SECOND,
                 one(0, 2, [3, 0, 1, 3, 2, 1]), gone(0, 1, 3)]
        self.assertEqual(self.sure(*calls), [[0, 0], [1, 0], [1, 0], [1, 0], [0, 0], [1, 0], [0, 2]])

    def test_an_unknown_that_is_made_a_known_one(self):
        someone = rule([0, 0, 1], [2, 0, 2])
        told_of = rule([1, 0, 1], [2, 0, 1])
        calls = [someone, told_of, SAME_FIRST_SAME_SECOND, ask([1], [2, 0, 1, 2, 0, 2]), fact(0, 1, 5),
                 fact(1, 1, 7), gone(0, 1, 5), gone(1, 1, 7)]
        self.assertEqual(self.sure(*calls), [[0, 0], [0, 0], [0, 0], [0, 0], [1, 0], [0, 0], [0, 1]])

    def test_no_longer_sure_when_the_fact_that_made_it_one_is_gone(self):
        both = rule([0, 0, 1], [2, 0, 2, 3, 2, 1])
        told_of = rule([1, 0, 1], [2, 0, 1])
        # Unknown x stands in (2,1,x) (3,x,2); (2,1,7) makes it 7, so that (7,2) answers.
        calls = [both, told_of, SAME_FIRST_SAME_SECOND, ask([0, 1], [3, 0, 1]), fact(0, 1, 2), fact(1, 1, 7),
                 gone(1, 1, 7)]
        self.assertEqual(self.sure(*calls), [[0, 0], [0, 0], [0, 0], [0, 0], [1, 0], [0, 1]])

    def test_by_a_rule_that_comes(self):
        calls = [fact(0, 1, 2), fact(0, 3, 2), ask([1], [2, 0, 1]), COPIED]
        self.assertEqual(self.sure(*calls)[-1], [1, 0])

    def test_where_it_clashes_none_counts_as_sure(self):
        calls = [COPIED, SAME_FIRST_SAME_SECOND, ask([0, 1], [2, 0, 1]), fact(0, 1, 2), fact(0, 3, 4),
                 fact(0, 1, 3), fact(0, 5, 5), gone(0, 3, 4), gone(0, 1, 2)]
        self.assertEqual(all_news(*calls)[2:], [[1, 0, 0, 1, 0], [1, 0, 0, 1, 0], [1, 0, 1, 0, 2],
                                                [1, 0, 1, 0, 0], [0, 1, 1, 0, 0], [0, 1, 0, 2, 0]])

    def test_where_it_clashes_none_is_sure_with_no_places_either(self):
        calls = [COPIED, ask([], [2, 0, 1]), fact(0, 1, 2), one(0, 1, [2, 0, 1]), fact(0, 3, 3), gone(0, 1, 2)]
        self.assertEqual(self.sure(*calls), [[0, 0], [1, 0], [0, 1], [0, 0], [1, 0]])

    def test_the_news_is_of_the_question_that_stands_now(self):
        # Asked anew between two changes: what was sure before the change is told by the new question, too.
        calls = [COPIED, ask([0], [2, 0, 1]), fact(0, 1, 2), ask([1], [2, 0, 1]), fact(0, 3, 2), fact(0, 3, 4),
                 ask([]), gone(0, 3, 4), ask([0], [2, 0, 1]), gone(0, 1, 2)]
        self.assertEqual(self.sure(*calls), [[0, 0], [1, 0], [0, 0], [1, 0], [0, 0], [0, 1]])

    def test_a_question_asked_while_it_clashes(self):
        calls = [COPIED, SAME_FIRST_SAME_SECOND, fact(0, 1, 2), fact(0, 1, 3), ask([0], [2, 0, 1]), gone(0, 1, 2)]
        self.assertEqual(self.sure(*calls)[-1], [1, 0])


if __name__ == "__main__":
    unittest.main()
