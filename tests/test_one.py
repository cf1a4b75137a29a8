"""one: which it is, and its refusals."""

import unittest

from lines import MOST, fact, last, one, rule, told

BODY = [2, 0, 1]
FULL = [one(0, 1, BODY)] * 3
HANDS_ON = rule([0, 0, 1], [2, 0, 1])

NOT_FORMED = [
    ("no atom", one(0, 1, [])),
    ("one number", one(0, 1, [2])),
    ("two numbers", one(0, 1, [2, 0])),
    ("numbers left over behind one atom", one(0, 1, [2, 0, 1, 2])),
    ("two numbers left over behind one atom", one(0, 1, [2, 0, 1, 2, 0])),
    ("numbers left over behind two atoms", one(0, 1, [2, 0, 1, 3, 0, 1, 2])),
    ("three atoms", one(0, 1, [2, 0, 1] * 3)),
    ("the source's lowest table", one(0, 1, [0, 0, 1])),
    ("the source's highest table", one(0, 1, [1, 0, 1])),
    ("no table", one(0, 1, [4, 0, 1])),
    ("the source's table in the second atom", one(0, 1, [2, 0, 1, 0, 0, 1])),
    ("no table in the second atom", one(0, 1, [2, 0, 1, 4, 0, 1])),
    ("a place 5, asked for", one(0, 5, [2, 0, 5])),
    ("a place 5, not asked for", one(0, 1, [2, 0, 1, 3, 0, 5])),
    ("the greatest place", one(0, MOST, [2, 0, MOST])),
    ("the greatest table", one(0, 1, [MOST, 0, 1])),
    ("two places that are the same", one(0, 0, [2, 0, 1])),
    ("two places that are the same one twice in an atom", one(1, 1, [2, 1, 1])),
    ("two places that are the same one in both atoms", one(1, 1, [2, 0, 1, 3, 1, 2])),
    ("a first place that the body hasn't", one(2, 1, [2, 0, 1])),
    ("a second place that the body hasn't", one(0, 2, [2, 0, 1])),
    ("a second place that neither atom has", one(0, 4, [2, 0, 1, 2, 2, 3])),
    ("a first place that neither atom has", one(4, 0, [2, 0, 1, 2, 2, 3])),
    ("neither place", one(3, 4, [2, 0, 1])),
    ("the greatest numbers as the two places", one(MOST, MOST - 1, [2, 0, 1])),
    ("a table's number that is no place", one(0, 2, [2, 0, 0])),
]


class Numbered(unittest.TestCase):
    def test_which_it_is_from_0(self):
        self.assertEqual([given[0] for given in told(*FULL)], [0, 1, 2])

    def test_one_rules_and_rules_are_counted_each_for_itself(self):
        given = told(HANDS_ON, one(0, 1, BODY), HANDS_ON, HANDS_ON, one(0, 1, BODY), one(0, 1, BODY))
        self.assertEqual([one_given[0] for one_given in given], [0, 0, 1, 2, 1, 2])

    def test_a_refused_one_rule_is_not_counted(self):
        given = told(one(0, 1, BODY), one(0, 0, BODY), one(0, 1, []), one(0, 1, BODY))
        self.assertEqual([one_given[0] for one_given in given], [0, -1, -1, 1])

    def test_all_that_is_so_formed_is_taken(self):
        for first, second, body in ([0, 1, [2, 0, 1]], [1, 0, [2, 0, 1]], [4, 0, [3, 0, 4]],
                                    [0, 3, [2, 0, 1, 3, 2, 3]], [3, 2, [2, 0, 1, 3, 2, 3]],
                                    [4, 3, [3, 4, 4, 2, 3, 3]], [0, 2, [2, 0, 1, 2, 1, 2]]):
            with self.subTest(first=first, second=second, body=body):
                self.assertEqual(last(one(first, second, body)), [0, 0, 0, 0, 0, 0])


class Refused(unittest.TestCase):
    def test_not_so_formed(self):
        for what, call in NOT_FORMED:
            with self.subTest(what):
                self.assertEqual(last(call), [-1])

    def test_there_are_3(self):
        self.assertEqual(last(*FULL, one(0, 1, BODY)), [-7])
        self.assertEqual(last(*FULL, one(3, 2, [3, 2, 3])), [-7])

    def test_not_so_formed_is_told_first(self):
        for what, call in NOT_FORMED:
            with self.subTest(what):
                self.assertEqual(last(*FULL, call), [-1])

    def test_all_is_as_it_was(self):
        for what, call in NOT_FORMED:
            with self.subTest(what):
                given = told(HANDS_ON, call, fact(0, 1, 2), one(0, 1, BODY))
                self.assertEqual(given[1:], [[-1], [1, 1, 0, 0, 0, 0], [0, 0, 0, 1, 0, 0]])

    def test_all_is_as_it_was_when_there_are_3(self):
        kept = [one(0, 1, [3, 0, 1])] * 3
        given = told(*kept, one(0, 1, BODY), HANDS_ON, fact(0, 1, 2))
        self.assertEqual(given[3:], [[-7], [0, 0, 0, 0, 0, 0], [1, 1, 0, 0, 0, 0]])


if __name__ == "__main__":
    unittest.main()
