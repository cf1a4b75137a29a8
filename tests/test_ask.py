"""ask: what is a question, and its refusal."""

import unittest

from lines import MOST, ask, fact, last, rule, told

NOT_FORMED = [
    ("three places", ask([0, 1, 0], [2, 0, 1])),
    ("three places, no alternatives", ask([0, 1, 2])),
    ("twenty places, no alternatives", ask([0] * 20)),
    ("three alternatives", ask([0], [2, 0, 1], [2, 0, 1], [2, 0, 1])),
    ("four alternatives", ask([0], [2, 0, 1], [2, 0, 1], [2, 0, 1], [2, 0, 1])),
    ("three alternatives, no places", ask([], [2, 0, 1], [2, 0, 1], [2, 0, 1])),
    ("no atom", ask([], [])),
    ("no atom in the second alternative", ask([0], [2, 0, 1], [])),
    ("no atom in the first alternative", ask([0], [], [2, 0, 1])),
    ("two numbers", ask([], [2, 0])),
    ("numbers left over behind one atom", ask([0], [2, 0, 1, 2])),
    ("numbers left over behind two atoms", ask([0], [2, 0, 1, 2, 0, 1, 2, 0])),
    ("three atoms", ask([0], [2, 0, 1] * 3)),
    ("the source's lowest table", ask([0], [0, 0, 1])),
    ("the source's highest table", ask([0], [1, 0, 1])),
    ("no table", ask([0], [4, 0, 1])),
    ("the source's table in the second atom", ask([0], [2, 0, 1, 1, 0, 1])),
    ("the source's table in the second alternative", ask([0], [2, 0, 1], [1, 0, 1])),
    ("place 5 in an atom", ask([0], [2, 0, 5])),
    ("place 5 in an atom, asked for", ask([5], [2, 0, 5])),
    ("the greatest place in the second alternative", ask([0], [2, 0, 1], [2, 0, MOST])),
    ("the greatest table", ask([0], [MOST, 0, 1])),
    ("a place that the alternative hasn't", ask([2], [2, 0, 1])),
    ("a second place that the alternative hasn't", ask([0, 2], [2, 0, 1])),
    ("a place that the first alternative hasn't", ask([2], [2, 0, 1], [2, 0, 2])),
    ("a place that the second alternative hasn't", ask([1], [2, 0, 1], [2, 0, 2])),
    ("a second place that the second alternative hasn't", ask([0, 1], [2, 0, 1], [2, 0, 2])),
    ("the greatest number asked for", ask([MOST], [2, 0, 1])),
]

FORMED = [
    ask([]),
    ask([], [2, 0, 1]),
    ask([], [2, 0, 1], [3, 4, 4]),
    ask([0], [2, 0, 1]),
    ask([1], [2, 0, 1]),
    ask([4], [3, 0, 1, 2, 4, 4]),
    ask([0, 1], [2, 0, 1]),
    ask([1, 0], [2, 0, 1]),
    ask([0, 0], [2, 0, 1]),
    ask([3, 0], [2, 0, 1, 3, 2, 3], [3, 3, 0]),
    ask([7]),
    ask([MOST, MOST]),
    ask([5, 5]),
]


class Asked(unittest.TestCase):
    def test_so_formed(self):
        for call in FORMED:
            with self.subTest(call):
                self.assertEqual(last(call), [0])

    def test_not_so_formed(self):
        for what, call in NOT_FORMED:
            with self.subTest(what):
                self.assertEqual(last(call), [-1])

    def test_it_may_be_asked_as_often_as_wanted(self):
        self.assertEqual(told(*[ask([0], [2, 0, 1])] * 60), [[0]] * 60)

    def test_the_question_before_stands_after_a_refusal(self):
        copied = rule([0, 0, 1], [2, 0, 1])
        for what, call in NOT_FORMED:
            with self.subTest(what):
                given = told(copied, ask([0], [2, 0, 1]), call, fact(0, 1, 2), fact(0, 1, 3), fact(0, 4, 4))
                self.assertEqual(given[2:], [[-1], [1, 1, 0, 0, 1, 0], [2, 1, 0, 0, 0, 0], [3, 1, 0, 0, 1, 0]])

    def test_the_last_question_is_the_question(self):
        copied = rule([0, 0, 1], [2, 0, 1])
        given = told(copied, ask([0], [2, 0, 1]), ask([1], [2, 0, 1]), fact(0, 1, 2), fact(0, 1, 3), fact(0, 4, 3))
        self.assertEqual(given[3:], [[1, 1, 0, 0, 1, 0], [2, 1, 0, 0, 1, 0], [3, 1, 0, 0, 0, 0]])

    def test_a_question_without_alternatives_takes_the_place_of_one_with_some(self):
        copied = rule([0, 0, 1], [2, 0, 1])
        given = told(copied, ask([0], [2, 0, 1]), ask([MOST, MOST]), fact(0, 1, 2))
        self.assertEqual(given[2:], [[0], [1, 1, 0, 0, 0, 0]])


if __name__ == "__main__":
    unittest.main()
