"""How calls and answers are laid out, and what is kept from one time to the next."""

import ast
import builtins
import contextlib
import inspect
import io
import pathlib
import re
import sys
import unittest
from unittest import mock

from keptup.handed import NoSuchCall, answers
from lines import (MOST, ask, begins, fact, gone, laid_out, line_of, made, one, rule, split, state, sure, target, told,
                   why)

# A bit of everything: all eleven calls, refusals, a clash, rows that come and go, begins in the middle.
MIXED = [
    rule([0, 0, 1], [2, 0, 2, 3, 2, 1]),
    one(1, 2, [2, 0, 1, 2, 0, 2]),
    ask([0], [2, 0, 1]),
    fact(0, 1, 2),
    fact(0, 1, 3),
    target(),
    made(),
    sure(),
    one(0, 2, [3, 1, 0, 3, 1, 2]),
    fact(0, 1, 3),
    made(),
    sure(),
    why(3, 101, 3),
    why(3, 100, 3),
    state(),
    gone(0, 1, 2),
    made(),
    sure(),
    begins(),
    state(),
    target(),
    fact(1, 19, 19),
    rule([], []),
    rule([1, 0, 0], [3, 0, 4]),
    why(3, 19, 100),
    target(),
    state(),
]
# Behind these the house has rules, one-rules, facts and a question, and has given unknowns.
LIVED_IN = MIXED[:18]


def told_without_depth(calls):
    """What is answered to each of the calls where Python allows but few calls within one another."""
    line = line_of(calls)
    depth = sys.getrecursionlimit()
    sys.setrecursionlimit(len(inspect.stack(0)) + 40)
    try:
        answered = answers(line)
    finally:
        sys.setrecursionlimit(depth)
    return split(answered)


class Layout(unittest.TestCase):
    def test_one_call_of_each(self):
        self.assertEqual(answers([0, 0, 0]), [1, 0])
        self.assertEqual(answers([1, 0, 2, 3, 0, 0, 1, 3, 2, 0, 1]), [6, 0, 0, 0, 0, 0, 0])
        self.assertEqual(answers([2, 2, 0, 1, 1, 3, 2, 0, 1]), [6, 0, 0, 0, 0, 0, 0])
        self.assertEqual(answers([3, 3, 0, 4, 5, 0]), [6, 1, 0, 0, 0, 0, 0])
        self.assertEqual(answers([4, 3, 0, 4, 5, 0]), [1, -2])
        self.assertEqual(answers([5, 0, 1, 0]), [1, 0])
        self.assertEqual(answers([5, 0, 3, 1, 4, 3, 2, 4, 0, 6, 3, 0, 0, 2, 0, 4]), [1, 0])
        self.assertEqual(answers([6, 0, 0]), [1, 0])
        self.assertEqual(answers([7, 0, 0]), [2, 0, 0])
        self.assertEqual(answers([8, 0, 0]), [1, 0])
        self.assertEqual(answers([9, 3, 2, 4, 5, 0]), [1, -2])
        self.assertEqual(answers([10, 0, 0]), [3, 0, 0, 100])

    def test_many_calls_in_one_list(self):
        calls = [1, 0, 2, 3, 0, 0, 1, 3, 2, 0, 1, 3, 3, 0, 4, 5, 0, 0, 0, 0, 5, 0, 2, 0, 3, 2, 0, 1]
        self.assertEqual(answers(calls), [6, 0, 0, 0, 0, 0, 0, 6, 1, 1, 0, 0, 0, 0, 1, 0, 1, 0])

    def test_what_is_told_number_by_number(self):
        calls = [1, 0, 2, 3, 0, 0, 1, 6, 2, 0, 1, 3, 1, 2, 3, 3, 0, 4, 5, 0, 5, 0, 2, 2, 1, 0, 3, 2, 0, 1,
                 6, 0, 0, 7, 0, 0, 8, 0, 0, 9, 3, 3, 5, 100, 0, 10, 0, 0]
        self.assertEqual(answers(calls), [6, 0, 0, 0, 0, 0, 0, 6, 1, 2, 0, 0, 0, 0, 1, 0,
                                          7, 2, 2, 4, 5, 3, 5, 100, 8, 2, 0, 2, 4, 5, 3, 5, 100, 3, 1, 5, 4,
                                          5, 1, 0, 2, 4, 5, 3, 1, 1, 101])

    def test_the_example_of_the_readme(self):
        readme = pathlib.Path(__file__).resolve().parent.parent / "README.md"
        example = readme.read_text(encoding="utf-8").split("```python\n")[1].split("```")[0]
        calls, answered = re.fullmatch(r".*answers\((\[.*?\n\])\)\n# (\[.*\])\n", example, re.DOTALL).groups()
        self.assertEqual(answers(ast.literal_eval(calls)), ast.literal_eval(answered))

    def test_sixty_calls(self):
        calls = [fact(0, 1, 1), gone(0, 1, 1)] * 30
        self.assertEqual(told(*calls), [[1, 0, 0, 0, 0, 0], [0, 0, 0, 0, 0, 0]] * 30)

    def test_a_refusal_stands_alone(self):
        calls = rule([], []) + one(0, 0, []) + fact(2, 0, 0) + gone(0, 0, 0) + ask([0, 1, 2]) + why(2, 0, 0)
        self.assertEqual(answers(calls), [1, -1, 1, -1, 1, -1, 1, -2, 1, -1, 1, -2])

    def test_a_refusal_stands_alone_but_at_made(self):
        calls = line_of([rule([0, 0, 1], [2, 0, 1]), one(0, 1, [2, 0, 1]), fact(0, 4, 5), made(), sure()])
        self.assertEqual(answers(calls), [6, 0, 0, 0, 0, 0, 0, 6, 0, 0, 0, 0, 0, 0, 6, 1, 1, 0, 1, 0, 0,
                                          4, -9, 0, 4, 5, 1, -9])

    def test_no_other_number_is_below_0(self):
        for given in told(*MIXED):
            self.assertTrue(all(number >= 0 for number in given[1:]), given)
            self.assertTrue(given[0] >= 0 or len(given) == 1 or (given[0] == -9 and len(given) == 4), given)

    def test_a_call_of_another_number(self):
        for call in (11, MOST):
            with self.assertRaises(NoSuchCall):
                answers(begins() + laid_out(call, [], []))

    def test_lists_that_are_as_long_as_may_be_are_read_to_their_end(self):
        long = [MOST] * 20
        self.assertEqual(told(rule(long, long), one(MOST, MOST, long), ask(long, long, long, long, long), begins()),
                         [[-1], [-1], [-1], [0]])

    def test_empty_lists_are_read_as_empty(self):
        self.assertEqual(told(rule([], []), one(0, 1, []), ask([], []), ask([]), begins()),
                         [[-1], [-1], [-1], [0], [0]])

    def test_answers_are_a_list_of_whole_numbers(self):
        answered = answers(line_of(MIXED))
        self.assertIs(type(answered), list)
        self.assertEqual({type(number) for number in answered}, {int})

    def test_the_mixed_line(self):
        # (0,1,2): (2,1,100) (3,100,2). (0,1,3): (2,1,101) (3,101,3), 101 is made 100. Then 2 and 3 are to be one.
        self.assertEqual(told(*MIXED), [
            [0, 0, 0, 0, 0, 0],
            [0, 0, 0, 0, 0, 0],
            [0],
            [1, 2, 0, 0, 1, 0],
            [2, 2, 0, 0, 0, 0],
            [4, 2, 1, 100, 2, 1, 101, 3, 100, 2, 3, 101, 3],
            [3, 1, 2, 1, 100, 3, 100, 2, 3, 100, 3],
            [1, 1],
            [1, 0, 0, 1, 0, 1],
            [-4],
            [-9, 1, 2, 3],
            [-9],
            [1, 0, 2, 1, 3],
            [-2],
            [2, 2, 102],
            [1, 0, 2, 0, 1, 0],
            [2, 0, 2, 1, 101, 3, 101, 3],
            [1, 1],
            [0],
            [0, 0, 100],
            [0],
            [1, 0, 0, 0, 0, 0],
            [-1],
            [0, 1, 0, 0, 0, 0],
            [1, 0, 1, 19],
            [1, 3, 19, 100],
            [1, 1, 101],
        ])

    def test_the_mixed_line_has_all_eleven_calls(self):
        self.assertEqual({call[0] for call in MIXED}, set(range(11)))

    def test_the_longest_lists_without_calls_deep_within_one_another(self):
        long = [1] * 20
        calls = [ask(long, long, long, long, long)] * 60
        self.assertEqual(told_without_depth(calls), [[-1]] * 60)

    def test_as_much_as_is_made_one_without_calls_deep_within_one_another(self):
        calls = [fact(0, value, value) for value in range(6)]
        calls += [rule([0, 0, 0, 0, 1, 1], [2, 2, 3, 2, 3, 4])] * 3 + [one(0, 1, [2, 0, 1]), state()]
        calls += [one(0, 3, [2, 0, 1, 2, 2, 3]), made(), target()]
        answered = told_without_depth(calls)
        self.assertEqual(answered[-4], [6, 108, 424])
        self.assertEqual(answered[-2], [1, 323, 2, 100, 100])
        self.assertEqual(answered[-1][0], 216)


class NothingKept(unittest.TestCase):
    def test_what_is_handed_in_is_not_changed(self):
        class Watched(list):
            def refuse(self, *given):
                raise AssertionError("the list is changed")

            append = extend = insert = pop = remove = reverse = sort = clear = refuse
            __setitem__ = __delitem__ = __iadd__ = __imul__ = refuse

        calls = line_of(MIXED)
        watched = Watched(calls)
        self.assertEqual(answers(watched), answers(calls))
        self.assertEqual(list(watched), calls)

    def test_the_same_list_twice_gives_the_same_answer(self):
        calls = line_of(MIXED)
        before = list(calls)
        first = answers(calls)
        self.assertEqual(calls, before)
        self.assertEqual(answers(calls), first)
        self.assertEqual(calls, before)

    def test_an_answer_that_is_changed_by_its_owner_changes_no_later_one(self):
        calls = line_of(MIXED)
        first = answers(calls)
        kept = list(first)
        first.clear()
        self.assertEqual(answers(calls), kept)

    def test_nothing_is_printed(self):
        printed = io.StringIO()
        with contextlib.redirect_stdout(printed), contextlib.redirect_stderr(printed):
            answers(line_of(MIXED))
        self.assertEqual(printed.getvalue(), "")

    def test_nothing_is_read_or_imported(self):
        calls = line_of(MIXED)
        expected = answers(calls)
        refuse = mock.Mock(side_effect=AssertionError("something is read or imported"))
        with mock.patch.object(builtins, "open", refuse), mock.patch.object(builtins, "input", refuse), \
                mock.patch.object(sys, "stdin", None), mock.patch.object(builtins, "__import__", refuse):
            answered = answers(calls)
        self.assertEqual(answered, expected)


class Begins(unittest.TestCase):
    def test_all_is_as_at_the_beginning(self):
        after = LIVED_IN
        for cut in range(len(MIXED)):
            with self.subTest(cut=cut):
                given = told(*(MIXED[:cut] + [begins()] + after))
                self.assertEqual(given[cut], [0])
                self.assertEqual(given[cut + 1:], told(*after))

    def test_no_rules_are_left(self):
        full = [rule([0, 0, 1], [2, 0, 1])] * 3
        self.assertEqual(told(*full, begins(), fact(0, 1, 2), *full)[3:],
                         [[0], [1, 0, 0, 0, 0, 0], [0, 1, 0, 0, 0, 0], [1, 0, 0, 0, 0, 0], [2, 0, 0, 0, 0, 0]])

    def test_no_one_rules_are_left(self):
        full = [one(0, 1, [2, 0, 1])] * 3
        given = told(*full, begins(), rule([0, 0, 1], [2, 0, 1]), fact(0, 1, 2), *full)
        self.assertEqual(given[3:], [[0], [0, 0, 0, 0, 0, 0], [1, 1, 0, 0, 0, 0],
                                     [0, 0, 0, 1, 0, 0], [1, 0, 0, 1, 0, 0], [2, 0, 0, 1, 0, 0]])

    def test_no_facts_are_left(self):
        self.assertEqual(told(fact(0, 1, 2), begins(), gone(0, 1, 2), fact(0, 1, 2))[1:],
                         [[0], [-2], [1, 0, 0, 0, 0, 0]])

    def test_no_question_is_left(self):
        given = told(ask([], [2, 0, 1]), begins(), rule([0, 0, 1], [2, 0, 1]), fact(0, 1, 2))
        self.assertEqual(given[-1], [1, 1, 0, 0, 0, 0])


if __name__ == "__main__":
    unittest.main()
