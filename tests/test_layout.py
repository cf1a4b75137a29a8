"""How calls and answers are laid out, and what is kept from one time to the next."""

import contextlib
import io
import unittest

from keptup.handed import answers
from lines import MOST, ask, begins, fact, gone, line_of, one, rule, told

# A bit of everything: refusals, a clash, rows that come and go, begins in the middle.
MIXED = [
    rule([0, 0, 1], [2, 0, 2, 3, 2, 1]),
    one(1, 2, [2, 0, 1, 2, 0, 2]),
    ask([0], [2, 0, 1]),
    fact(0, 1, 2),
    fact(0, 1, 3),
    one(0, 2, [3, 1, 0, 3, 1, 2]),
    fact(0, 1, 3),
    gone(0, 1, 2),
    begins(),
    fact(1, 19, 19),
    rule([], []),
    rule([1, 0, 0], [3, 0, 4]),
]


class Layout(unittest.TestCase):
    def test_one_call_of_each(self):
        self.assertEqual(answers([0, 0, 0]), [1, 0])
        self.assertEqual(answers([1, 0, 2, 3, 0, 0, 1, 3, 2, 0, 1]), [6, 0, 0, 0, 0, 0, 0])
        self.assertEqual(answers([2, 2, 0, 1, 1, 3, 2, 0, 1]), [6, 0, 0, 0, 0, 0, 0])
        self.assertEqual(answers([3, 3, 0, 4, 5, 0]), [6, 1, 0, 0, 0, 0, 0])
        self.assertEqual(answers([4, 3, 0, 4, 5, 0]), [1, -2])
        self.assertEqual(answers([5, 0, 1, 0]), [1, 0])
        self.assertEqual(answers([5, 0, 3, 1, 4, 3, 2, 4, 0, 6, 3, 0, 0, 2, 0, 4]), [1, 0])

    def test_many_calls_in_one_list(self):
        calls = [1, 0, 2, 3, 0, 0, 1, 3, 2, 0, 1, 3, 3, 0, 4, 5, 0, 0, 0, 0, 5, 0, 2, 0, 3, 2, 0, 1]
        self.assertEqual(answers(calls), [6, 0, 0, 0, 0, 0, 0, 6, 1, 1, 0, 0, 0, 0, 1, 0, 1, 0])

    def test_sixty_calls(self):
        calls = [fact(0, 1, 1), gone(0, 1, 1)] * 30
        self.assertEqual(told(*calls), [[1, 0, 0, 0, 0, 0], [0, 0, 0, 0, 0, 0]] * 30)

    def test_a_refusal_stands_alone(self):
        calls = rule([], []) + one(0, 0, []) + fact(2, 0, 0) + gone(0, 0, 0) + ask([0, 1, 2])
        self.assertEqual(answers(calls), [1, -1, 1, -1, 1, -1, 1, -2, 1, -1])

    def test_lists_that_are_as_long_as_may_be_are_read_to_their_end(self):
        long = [MOST] * 20
        self.assertEqual(told(rule(long, long), one(MOST, MOST, long), ask(long, long, long, long, long), begins()),
                         [[-1], [-1], [-1], [0]])

    def test_empty_lists_are_read_as_empty(self):
        self.assertEqual(told(rule([], []), one(0, 1, []), ask([], []), ask([]), begins()),
                         [[-1], [-1], [-1], [0], [0]])

    def test_answers_are_a_list_of_whole_numbers(self):
        answered = answers(line_of(MIXED))
        self.assertIs(type(answered), list)
        self.assertEqual({type(number) for number in answered}, {int})

    def test_the_mixed_line(self):
        # (0,1,2): (2,1,100) (3,100,2). (0,1,3): (2,1,101) (3,101,3), 101 is made 100. Then 2 and 3 are to be one.
        self.assertEqual(told(*MIXED), [
            [0, 0, 0, 0, 0, 0],
            [0, 0, 0, 0, 0, 0],
            [0],
            [1, 2, 0, 0, 1, 0],
            [2, 2, 0, 0, 0, 0],
            [1, 0, 0, 1, 0, 1],
            [-4],
            [1, 0, 2, 0, 1, 0],
            [0],
            [1, 0, 0, 0, 0, 0],
            [-1],
            [0, 1, 0, 0, 0, 0],
        ])


class NothingKept(unittest.TestCase):
    def test_what_is_handed_in_is_not_changed(self):
        class Watched(list):
            def refuse(self, *given):
                raise AssertionError("the list is changed")

            append = extend = insert = pop = remove = reverse = sort = clear = refuse
            __setitem__ = __delitem__ = __iadd__ = __imul__ = refuse

        calls = line_of(MIXED)
        watched = Watched(calls)
        self.assertEqual(answers(watched), answers(calls))
        self.assertEqual(list(watched), calls)

    def test_the_same_list_twice_gives_the_same_answer(self):
        calls = line_of(MIXED)
        before = list(calls)
        first = answers(calls)
        self.assertEqual(calls, before)
        self.assertEqual(answers(calls), first)
        self.assertEqual(calls, before)

    def test_an_answer_that_is_changed_by_its_owner_changes_no_later_one(self):
        calls = line_of(MIXED)
        first = answers(calls)
        kept = list(first)
        first.clear()
        self.assertEqual(answers(calls), kept)

    def test_nothing_is_printed(self):
        printed = io.StringIO()
        with contextlib.redirect_stdout(printed), contextlib.redirect_stderr(printed):
            answers(line_of(MIXED))
        self.assertEqual(printed.getvalue(), "")


class Begins(unittest.TestCase):
    def test_all_is_as_at_the_beginning(self):
        after = MIXED[:8]
        for cut in range(len(MIXED)):
            with self.subTest(cut=cut):
                given = told(*(MIXED[:cut] + [begins()] + after))
                self.assertEqual(given[cut], [0])
                self.assertEqual(given[cut + 1:], told(*after))

    def test_no_rules_are_left(self):
        full = [rule([0, 0, 1], [2, 0, 1])] * 3
        self.assertEqual(told(*full, begins(), fact(0, 1, 2), *full)[3:],
                         [[0], [1, 0, 0, 0, 0, 0], [0, 1, 0, 0, 0, 0], [1, 0, 0, 0, 0, 0], [2, 0, 0, 0, 0, 0]])

    def test_no_one_rules_are_left(self):
        full = [one(0, 1, [2, 0, 1])] * 3
        given = told(*full, begins(), rule([0, 0, 1], [2, 0, 1]), fact(0, 1, 2), *full)
        self.assertEqual(given[3:], [[0], [0, 0, 0, 0, 0, 0], [1, 1, 0, 0, 0, 0],
                                     [0, 0, 0, 1, 0, 0], [1, 0, 0, 1, 0, 0], [2, 0, 0, 1, 0, 0]])

    def test_no_facts_are_left(self):
        self.assertEqual(told(fact(0, 1, 2), begins(), gone(0, 1, 2), fact(0, 1, 2))[1:],
                         [[0], [-2], [1, 0, 0, 0, 0, 0]])

    def test_no_question_is_left(self):
        given = told(ask([], [2, 0, 1]), begins(), rule([0, 0, 1], [2, 0, 1]), fact(0, 1, 2))
        self.assertEqual(given[-1], [1, 1, 0, 0, 0, 0])


if __name__ == "__main__":
    unittest.main()
