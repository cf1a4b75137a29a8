"""Random lines, against the document's words done as plainly and as slowly as they stand."""

import itertools
import random
import unittest

from keptup.handed import answers
from keptup.house import House
from lines import ask, begins, fact, gone, line_of, made, one, rule, split, state, sure, target, tupled, why
from plain import Plain, rows_of

LAID_OUT = {"rule": rule, "one": one, "fact": fact, "gone": gone, "ask": ask, "begins": begins,
            "target": target, "made": made, "sure": sure, "why": why, "state": state}
KINDS = list(LAID_OUT)
ONLY_ASKED = [("target", ()), ("made", ()), ("sure", ()), ("why", (2, 0, 1)), ("why", (3, 1, 100)), ("state", ())]


class Lines:
    """Random calls: mostly so formed, sometimes not."""

    def __init__(self, seed):
        self.dice = random.Random(seed)
        self.width = self.dice.choice([2, 3, 20])
        self.places = self.dice.choice([2, 3, 5])
        self.handed_in = []
        # Gone along with, so that why is asked of facts that are there.
        self.plain = Plain()

    def atoms(self, tables):
        if self.dice.random() < 0.03:
            return [self.dice.randrange(6) for turn in range(self.dice.choice([0, 2, 3, 4, 6, 7, 9]))]
        numbers = []
        for turn in range(self.dice.choice([1, 2, 2])):
            numbers += [self.dice.choice(tables), self.dice.randrange(self.places), self.dice.randrange(self.places)]
        return numbers

    def place_of(self, numbers):
        if len(numbers) < 3 or self.dice.random() < 0.05:
            return self.dice.randrange(7)
        return self.dice.choice([number for at, number in enumerate(numbers) if at % 3 > 0])

    def numbers(self):
        if self.dice.random() < 0.03:
            return tuple(self.dice.choice([0, 1, 2, 19, 20, 100, 4294967295]) for turn in range(3))
        return (self.dice.randrange(2), self.dice.randrange(self.width), self.dice.randrange(self.width))

    def fact_of_the_target(self):
        """One that may be there or not."""
        values = list(range(self.width)) + [100, 101, 102, 103, 4294967295]
        return (self.dice.choice([2, 3]), self.dice.choice(values), self.dice.choice(values))

    def call(self):
        kind = self.dice.choices(KINDS, [4, 3, 12, 5, 4, 0.15, 1.5, 2, 2, 2, 1])[0]
        if kind == "rule":
            return kind, (self.atoms([0, 1]), self.atoms([2, 3]))
        if kind == "one":
            body = self.atoms([2, 3])
            pairs = [(self.place_of(body), self.place_of(body)) for turn in range(5)]
            return kind, max(pairs, key=lambda pair: pair[0] != pair[1]) + (body,)
        if kind == "fact":
            self.handed_in.append(self.numbers())
            return kind, self.handed_in[-1]
        if kind == "gone":
            return kind, self.dice.choice(self.handed_in[-6:] + [self.numbers()])
        if kind == "why":
            return kind, self.dice.choice(sorted(self.plain.handed_on) * 4 + [self.fact_of_the_target()])
        if kind != "ask":
            return kind, ()
        alternatives = [self.atoms([2, 3]) for turn in range(self.dice.choice([0, 1, 1, 2, 2, 3]))]
        source = alternatives[0] if alternatives else []
        places = [self.place_of(source) for turn in range(self.dice.choice([0, 1, 1, 2, 2, 2, 3]))]
        return kind, tuple([places] + alternatives)

    def calls(self, amount):
        calls = []
        for turn in range(amount):
            kind, given = self.call()
            getattr(self.plain, kind)(*given)
            calls.append((kind, given))
        return calls


def asked(calls):
    return split(answers(line_of([LAID_OUT[kind](*given) for kind, given in calls])))


def plainly(calls):
    house = Plain()
    return [getattr(house, kind)(*given) for kind, given in calls]


def plain_after(calls):
    house = Plain()
    for kind, given in calls:
        getattr(house, kind)(*given)
    return house


def house_after(calls):
    house = House()
    for kind, given in calls:
        if kind == "begins":
            house = House()
        elif kind == "ask":
            house.ask(given[0], list(given[1:]))
        else:
            getattr(house, kind)(*given)
    return house


def what_is_left(calls):
    """Calls by which a new house has the rules, the one-rules, the facts and the question of the one behind these."""
    left = []
    for (kind, given), answered in zip(calls, asked(calls)):
        if kind == "begins":
            left = []
        elif kind == "gone" and answered[0] >= 0:
            left.remove(("fact", given))
        elif kind in ("rule", "one", "fact", "ask") and answered[0] >= 0:
            left.append((kind, given))
    return left


def known(facts):
    return [one_fact for one_fact in facts if one_fact[1] < 100 and one_fact[2] < 100]


class RandomLines(unittest.TestCase):
    def test_as_the_words_say(self):
        for seed in range(400):
            lines = Lines(seed)
            calls = lines.calls(lines.dice.choice([1, 10, 25, 25, 60]))
            with self.subTest(seed=seed):
                self.assertEqual(asked(calls), plainly(calls))

    def test_without_the_refused_calls_the_others_answer_the_same(self):
        for seed in range(400, 600):
            calls = Lines(seed).calls(40)
            given = asked(calls)
            kept = [at for at in range(len(calls)) if given[at][0] >= 0]
            with self.subTest(seed=seed):
                self.assertLess(len(kept), len(calls))
                self.assertEqual(asked([calls[at] for at in kept]), [given[at] for at in kept])

    def test_what_is_only_asked_changes_nothing(self):
        for seed in range(1000, 1100):
            calls = Lines(seed).calls(8)
            between = []
            for call in calls:
                between += [call] + ONLY_ASKED
            with self.subTest(seed=seed):
                self.assertEqual(asked(between)[::1 + len(ONLY_ASKED)], asked(calls))
                self.assertEqual(asked(between), plainly(between))

    def test_the_same_list_twice_gives_the_same_answers(self):
        for seed in range(1100, 1150):
            line = line_of([LAID_OUT[kind](*given) for kind, given in Lines(seed).calls(40)])
            before = list(line)
            with self.subTest(seed=seed):
                first = answers(line)
                self.assertEqual(line, before)
                self.assertEqual(answers(line), first)
                self.assertEqual(line, before)


class HandedOnAnew(unittest.TestCase):
    """Whatever has come and gone, what's kept is what's handed on anew, but for its unknowns' names."""

    def test_match_by_match(self):
        for seed in range(600, 700):
            calls = Lines(seed).calls(40)
            house = house_after(calls)
            anew = house_after(what_is_left(calls))
            names = {value: value for value in range(100)}
            for match in anew.unknowns_of:
                names.update(zip(anew.unknowns_of[match], house.unknowns_of[match]))
            renamed = sorted((table, names[first], names[second]) for table, first, second in anew.target_facts)
            with self.subTest(seed=seed):
                self.assertEqual(list(anew.unknowns_of), list(house.unknowns_of))
                self.assertEqual(renamed, house.target_facts)

    def test_as_it_is_answered(self):
        clashes = 0
        for seed in range(600, 800):
            calls = Lines(seed).calls(40)
            left = what_is_left(calls)
            whys = [("why", one_fact) for one_fact in known(plain_after(calls).handed_on)]
            last_asked = [("target", ()), ("made", ()), ("sure", ()), ("state", ())] + whys
            kept = asked(calls + last_asked)[len(calls):]
            anew = asked(left + last_asked)[len(left):]
            with self.subTest(seed=seed):
                self.assertEqual(known(tupled(anew[0][1:], 3)), known(tupled(kept[0][1:], 3)))
                self.assertEqual(anew[0][0], kept[0][0])
                # By which values it clashes may hang on the names: they stand in the order of the matches.
                self.assertEqual(anew[1][:1], kept[1][:1])
                if kept[1][0] != -9:
                    self.assertEqual(anew[1][:2], kept[1][:2])
                    self.assertEqual(known(tupled(anew[1][2:], 3)), known(tupled(kept[1][2:], 3)))
                self.assertEqual(anew[2], kept[2])
                self.assertEqual(anew[3][:2], kept[3][:2])
                self.assertEqual(anew[4:], kept[4:])
            clashes += kept[1][0] == -9
        self.assertGreater(clashes, 10)
        self.assertLess(clashes, 150)


class Solutions(unittest.TestCase):
    def test_what_is_made_one_is_a_solution_and_sure_rows_answer_in_others_too(self):
        others = 0
        for seed in range(700, 800):
            lines = Lines(seed)
            calls = lines.calls(25)
            plain = plain_after(calls)
            made_one, rows = asked(calls + [("made", ()), ("sure", ())])[-2:]
            self.assertEqual(made_one[0] == -9, plain.clash is not None)
            self.assertEqual(rows[0] == -9, plain.clash is not None)
            if plain.clash:
                continue
            facts = tupled(made_one[2:], 3)
            width = len(plain.question[0])
            sure_rows = set(tupled(rows[1:], width)) if width else {()} if rows[0] else set()
            self.assertEqual(len(sure_rows), rows[0])
            self.assertTrue(plain.is_solution(set(facts)))
            for turn in range(10):
                put = {value: lines.dice.choice([value, lines.dice.randrange(20)]) for value in range(100, 2000)}
                other = {(table, put.get(first, first), put.get(second, second)) for table, first, second in facts}
                other.add((2, lines.dice.randrange(20), lines.dice.randrange(20)))
                if plain.is_solution(other):
                    others += 1
                    self.assertLessEqual(sure_rows, rows_of(other, *plain.question))
        self.assertGreater(others, 100)

    def test_a_row_that_is_not_sure_is_missing_in_some_solution(self):
        # What's made one is a solution, and so it is with other names: no row but the sure ones is in both.
        for seed in range(800, 900):
            calls = Lines(seed).calls(25)
            plain = plain_after(calls)
            made_one, rows = asked(calls + [("made", ()), ("sure", ())])[-2:]
            if plain.clash is None:
                facts = set(tupled(made_one[2:], 3))
                other = {(fact[0], *[value + (1000 if value >= 100 else 0) for value in fact[1:]]) for fact in facts}
                self.assertTrue(plain.is_solution(other))
                in_both = rows_of(facts, *plain.question) & rows_of(other, *plain.question)
                self.assertEqual(rows, [len(in_both)] + [value for row in sorted(in_both) for value in row])

    def test_where_it_clashes_no_facts_of_few_values_are_a_solution(self):
        calls = [("rule", ([0, 0, 1], [2, 0, 2, 2, 1, 2])), ("one", (0, 1, [2, 0, 1])), ("fact", (0, 0, 1))]
        plain = plain_after(calls)
        self.assertEqual(asked(calls + [("made", ()), ("sure", ())])[3:], [[-9, 0, 0, 1], [-9]])
        possible = [(2, first, second) for first in (0, 1, 100) for second in (0, 1, 100)]
        for amount in range(len(possible) + 1):
            for facts in itertools.combinations(possible, amount):
                self.assertFalse(plain.is_solution(set(facts)))


if __name__ == "__main__":
    unittest.main()
