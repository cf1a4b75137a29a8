"""rule: which it is, and its refusals."""

import unittest

from lines import MOST, fact, last, rule, told

BODY = [0, 0, 1]
HEAD = [2, 0, 1]
FULL = [rule(BODY, HEAD)] * 3

# What is wrong with a body (first) and with a head (second) in just the same way.
NOT_FORMED = [
    ("no atom", [], []),
    ("one number", [0], [2]),
    ("two numbers", [0, 0], [2, 0]),
    ("a number left over behind one atom", [0, 0, 1, 0], [2, 0, 1, 2]),
    ("two numbers left over behind one atom", [0, 0, 1, 0, 1], [2, 0, 1, 2, 1]),
    ("a number left over behind two atoms", [0, 0, 1, 1, 0, 1, 0], [2, 0, 1, 3, 0, 1, 2]),
    ("three atoms", [0, 0, 1] * 3, [2, 0, 1] * 3),
    ("six atoms and two numbers", [0] * 20, [2] * 20),
    ("the other side's lowest table", [2, 0, 1], [0, 0, 1]),
    ("the other side's highest table", [3, 0, 1], [1, 0, 1]),
    ("no table at all", [4, 0, 1], [4, 0, 1]),
    ("the greatest number as a table", [MOST, 0, 1], [MOST, 0, 1]),
    ("the other side's table in the second atom", [0, 0, 1, 2, 0, 1], [2, 0, 1, 1, 0, 1]),
    ("no table in the second atom", [0, 0, 1, 4, 0, 1], [2, 0, 1, 4, 0, 1]),
    ("first place 5", [0, 5, 1], [2, 5, 1]),
    ("second place 5", [0, 0, 5], [2, 0, 5]),
    ("first place 5 in the second atom", [0, 0, 1, 1, 5, 0], [2, 0, 1, 3, 5, 0]),
    ("second place 5 in the second atom", [0, 0, 1, 1, 0, 5], [2, 0, 1, 3, 0, 5]),
    ("the greatest number as a place", [0, MOST, 0], [2, 0, MOST]),
]


class Numbered(unittest.TestCase):
    def test_which_it_is_from_0(self):
        self.assertEqual([given[0] for given in told(*FULL)], [0, 1, 2])

    def test_a_refused_rule_is_not_counted(self):
        given = told(rule(BODY, HEAD), rule([], HEAD), rule(BODY, []), rule(BODY, HEAD))
        self.assertEqual([one_given[0] for one_given in given], [0, -1, -1, 1])

    def test_all_that_is_so_formed_is_taken(self):
        for table in (0, 1):
            for places in ([0, 0], [0, 4], [4, 0], [4, 4], [2, 3]):
                for head_table in (2, 3):
                    body = [table] + places
                    head = [head_table] + places
                    with self.subTest(body=body, head=head):
                        self.assertEqual(last(rule(body, head)), [0, 0, 0, 0, 0, 0])
                        self.assertEqual(last(rule(body + BODY, head)), [0, 0, 0, 0, 0, 0])
                        self.assertEqual(last(rule(body, HEAD + head)), [0, 0, 0, 0, 0, 0])

    def test_a_head_may_have_no_place_of_the_body(self):
        self.assertEqual(last(fact(0, 1, 2), rule([0, 0, 1], [2, 2, 3, 3, 3, 4])), [0, 2, 0, 0, 0, 0])


class Refused(unittest.TestCase):
    def test_a_body_that_is_not_so_formed(self):
        for what, body, head in NOT_FORMED:
            with self.subTest(what):
                self.assertEqual(last(rule(body, HEAD)), [-1])

    def test_a_head_that_is_not_so_formed(self):
        for what, body, head in NOT_FORMED:
            with self.subTest(what):
                self.assertEqual(last(rule(BODY, head)), [-1])

    def test_both_that_are_not_so_formed(self):
        for what, body, head in NOT_FORMED:
            with self.subTest(what):
                self.assertEqual(last(rule(body, head)), [-1])

    def test_there_are_3(self):
        self.assertEqual(last(*FULL, rule(BODY, HEAD)), [-7])
        self.assertEqual(last(*FULL, rule([1, 4, 4], [3, 2, 2])), [-7])

    def test_not_so_formed_is_told_first(self):
        for what, body, head in NOT_FORMED:
            with self.subTest(what):
                self.assertEqual(last(*FULL, rule(body, HEAD)), [-1])
                self.assertEqual(last(*FULL, rule(BODY, head)), [-1])

    def test_all_is_as_it_was(self):
        for refused in ([rule([], HEAD)], [rule(BODY, [])], [rule([0, 0, 1], [2, 0, 5])]):
            given = told(fact(0, 1, 2), *refused, fact(0, 3, 4), rule(BODY, HEAD), fact(0, 5, 6))
            self.assertEqual(given, [[1, 0, 0, 0, 0, 0], [-1], [2, 0, 0, 0, 0, 0],
                                     [0, 2, 0, 0, 0, 0], [3, 1, 0, 0, 0, 0]])

    def test_all_is_as_it_was_when_there_are_3(self):
        given = told(*FULL, rule(BODY, [3, 0, 1]), fact(0, 1, 2))
        self.assertEqual(given[3:], [[-7], [1, 1, 0, 0, 0, 0]])


if __name__ == "__main__":
    unittest.main()
