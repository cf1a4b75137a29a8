"""Random lines, against the document's words done as plainly and as slowly as they stand."""

import itertools
import random
import unittest

from keptup.handed import answers
from keptup.house import House
from lines import ask, begins, fact, gone, line_of, one, rule, split


def atoms_in(numbers, tables):
    """The atoms, or None if the numbers aren't so formed."""
    if len(numbers) not in (3, 6):
        return None
    atoms = [tuple(numbers[at:at + 3]) for at in range(0, len(numbers), 3)]
    good = all(table in tables and one in range(5) and other in range(5) for table, one, other in atoms)
    return atoms if good else None


def all_matches(facts, atoms):
    """All matches in order, each as a dict of its values by place."""
    found = []
    for chosen in itertools.product(sorted(facts), repeat=len(atoms)):
        values = {}
        fitting = True
        for (table, one_place, other_place), (in_table, one_value, other_value) in zip(atoms, chosen):
            fitting = fitting and table == in_table
            fitting = fitting and values.setdefault(one_place, one_value) == one_value
            fitting = fitting and values.setdefault(other_place, other_value) == other_value
        if fitting:
            found.append(values)
    return found


def places_in(atoms):
    return list(dict.fromkeys(place for atom in atoms for place in atom[1:]))


def rows_of(facts, places, alternatives):
    return {tuple(values[place] for place in places) for atoms in alternatives for values in all_matches(facts, atoms)}


class Plain:
    """The house, told from the document alone."""

    def __init__(self):
        self.rules, self.ones, self.source, self.question = [], [], set(), ([], [])
        self.given, self.after, self.target, self.clash, self.solved = {}, 100, set(), False, set()

    def begins(self):
        self.__init__()
        return [0]

    def rule(self, body, head):
        if atoms_in(body, (0, 1)) is None or atoms_in(head, (2, 3)) is None:
            return [-1]
        if len(self.rules) >= 3:
            return [-7]
        self.rules.append((atoms_in(body, (0, 1)), atoms_in(head, (2, 3))))
        return [len(self.rules) - 1] + self.changed()

    def one(self, first, second, body):
        atoms = atoms_in(body, (2, 3))
        if atoms is None or first == second or not {first, second} <= set(places_in(atoms)):
            return [-1]
        if len(self.ones) >= 3:
            return [-7]
        self.ones.append((first, second, atoms))
        return [len(self.ones) - 1] + self.changed()

    def fact(self, *new):
        if new[0] not in (0, 1) or new[1] >= 20 or new[2] >= 20:
            return [-1]
        if new in self.source:
            return [-4]
        if len(self.source) >= 6:
            return [-7]
        self.source.add(new)
        return [len(self.source)] + self.changed()

    def gone(self, *old):
        if old not in self.source:
            return [-2]
        self.source.remove(old)
        return [len(self.source)] + self.changed()

    def ask(self, places, *alternatives):
        atoms = [atoms_in(numbers, (2, 3)) for numbers in alternatives]
        if len(places) > 2 or len(atoms) > 2 or None in atoms:
            return [-1]
        if any(place not in places_in(alternative) for place in places for alternative in atoms):
            return [-1]
        self.question = (places, atoms)
        return [0]

    def sure(self):
        if self.clash:
            return set()
        return {row for row in rows_of(self.solved, *self.question) if all(value < 100 for value in row)}

    def changed(self):
        target, sure = self.target, self.sure()
        self.hand_on()
        self.make_one()
        return [len(self.target - target), len(target - self.target), int(self.clash),
                len(self.sure() - sure), len(sure - self.sure())]

    def hand_on(self):
        there = {}
        self.target = set()
        for which, (body, head) in enumerate(self.rules):
            closed = places_in(body)
            for values in all_matches(self.source, body):
                match = (which, tuple(values[place] for place in closed))
                if match not in self.given:
                    names = {}
                    for place in places_in(head):
                        if place not in closed:
                            names[place] = self.after
                            self.after += 1
                    self.given[match] = names
                there[match] = self.given[match]
                full = {**values, **there[match]}
                self.target |= {(table, full[one_place], full[other]) for table, one_place, other in head}
        self.given = there

    def first_not_kept(self):
        for first, second, atoms in self.ones:
            for values in all_matches(self.solved, atoms):
                if values[first] != values[second]:
                    return sorted([values[first], values[second]])
        return None

    def make_one(self):
        self.clash = False
        self.solved = set(self.target)
        two = self.first_not_kept()
        while two is not None:
            if two[1] < 100:
                self.clash = True
                return
            put = {two[1]: two[0]}
            self.solved = {(table, put.get(one, one), put.get(other, other)) for table, one, other in self.solved}
            two = self.first_not_kept()

    def is_solution(self, facts):
        """Whether these facts of the target are a solution."""
        for body, head in self.rules:
            answered = all_matches(facts, head)
            for values in all_matches(self.source, body):
                shared = [place for place in places_in(head) if place in values]
                if not any(all(full[place] == values[place] for place in shared) for full in answered):
                    return False
        return all(values[first] == values[second]
                   for first, second, atoms in self.ones for values in all_matches(facts, atoms))


class Lines:
    """Random calls: mostly so formed, sometimes not."""

    def __init__(self, seed):
        self.dice = random.Random(seed)
        self.width = self.dice.choice([2, 3, 20])
        self.places = self.dice.choice([2, 3, 5])
        self.handed_in = []

    def atoms(self, tables):
        if self.dice.random() < 0.03:
            return [self.dice.randrange(6) for turn in range(self.dice.choice([0, 2, 3, 4, 6, 7, 9]))]
        numbers = []
        for turn in range(self.dice.choice([1, 2, 2])):
            numbers += [self.dice.choice(tables), self.dice.randrange(self.places), self.dice.randrange(self.places)]
        return numbers

    def place_of(self, numbers):
        if len(numbers) < 3 or self.dice.random() < 0.05:
            return self.dice.randrange(7)
        return self.dice.choice([number for at, number in enumerate(numbers) if at % 3 > 0])

    def numbers(self):
        if self.dice.random() < 0.03:
            return tuple(self.dice.choice([0, 1, 2, 19, 20, 100, 4294967295]) for turn in range(3))
        return (self.dice.randrange(2), self.dice.randrange(self.width), self.dice.randrange(self.width))

    def call(self):
        kind = self.dice.choices(["rule", "one", "fact", "gone", "ask", "begins"], [4, 3, 12, 5, 4, 0.15])[0]
        if kind == "rule":
            return kind, (self.atoms([0, 1]), self.atoms([2, 3]))
        if kind == "one":
            body = self.atoms([2, 3])
            pairs = [(self.place_of(body), self.place_of(body)) for turn in range(5)]
            return kind, max(pairs, key=lambda pair: pair[0] != pair[1]) + (body,)
        if kind == "fact":
            self.handed_in.append(self.numbers())
            return kind, self.handed_in[-1]
        if kind == "gone":
            return kind, self.dice.choice(self.handed_in[-6:] + [self.numbers()])
        if kind == "begins":
            return kind, ()
        alternatives = [self.atoms([2, 3]) for turn in range(self.dice.choice([0, 1, 1, 2, 2, 3]))]
        source = alternatives[0] if alternatives else []
        places = [self.place_of(source) for turn in range(self.dice.choice([0, 1, 1, 2, 2, 2, 3]))]
        return kind, tuple([places] + alternatives)

    def calls(self, amount):
        return [self.call() for turn in range(amount)]


LAID_OUT = {"begins": begins, "rule": rule, "one": one, "fact": fact, "gone": gone, "ask": ask}


def asked(calls):
    return split(answers(line_of([LAID_OUT[kind](*given) for kind, given in calls])))


def plainly(calls):
    house = Plain()
    return [getattr(house, kind)(*given) for kind, given in calls]


def house_after(calls):
    house = House()
    for kind, given in calls:
        if kind == "begins":
            house = House()
        elif kind == "ask":
            house.ask(given[0], list(given[1:]))
        else:
            getattr(house, kind)(*given)
    return house


class RandomLines(unittest.TestCase):
    def test_as_the_words_say(self):
        for seed in range(400):
            lines = Lines(seed)
            calls = lines.calls(lines.dice.choice([1, 10, 25, 25, 60]))
            with self.subTest(seed=seed):
                self.assertEqual(asked(calls), plainly(calls))

    def test_without_the_refused_calls_the_others_answer_the_same(self):
        for seed in range(400, 600):
            calls = Lines(seed).calls(40)
            given = asked(calls)
            kept = [at for at in range(len(calls)) if given[at][0] >= 0]
            with self.subTest(seed=seed):
                self.assertLess(len(kept), len(calls))
                self.assertEqual(asked([calls[at] for at in kept]), [given[at] for at in kept])

    def test_what_is_kept_is_what_is_handed_on_anew_but_for_names(self):
        for seed in range(600, 700):
            house = house_after(Lines(seed).calls(40))
            anew = House()
            anew.source_facts = list(house.source_facts)
            anew.rules = list(house.rules)
            anew.one_rules = list(house.one_rules)
            anew.news()
            names = {value: value for value in range(100)}
            for match in anew.unknowns_of:
                names.update(zip(anew.unknowns_of[match], house.unknowns_of[match]))
            renamed = sorted((table, names[first], names[second]) for table, first, second in anew.target_facts)
            with self.subTest(seed=seed):
                self.assertEqual(set(anew.unknowns_of), set(house.unknowns_of))
                self.assertEqual(renamed, house.target_facts)
                self.assertEqual(anew.made_facts is None, house.made_facts is None)


class Solutions(unittest.TestCase):
    def test_what_is_made_one_is_a_solution_and_sure_rows_answer_in_others_too(self):
        others = 0
        for seed in range(700, 800):
            lines = Lines(seed)
            calls = lines.calls(25)
            house = house_after(calls)
            plain = Plain()
            for kind, given in calls:
                getattr(plain, kind)(*given)
            self.assertEqual(house.made_facts is None, plain.clash)
            if plain.clash:
                continue
            self.assertTrue(plain.is_solution(set(house.made_facts)))
            for turn in range(10):
                known = {value: lines.dice.choice([value, lines.dice.randrange(20)]) for value in range(100, 2000)}
                other = {(table, known.get(first, first), known.get(second, second))
                         for table, first, second in house.made_facts}
                other.add((2, lines.dice.randrange(20), lines.dice.randrange(20)))
                if plain.is_solution(other):
                    others += 1
                    self.assertLessEqual(plain.sure(), rows_of(other, *plain.question))
        self.assertGreater(others, 100)

    def test_where_it_clashes_no_facts_of_few_values_are_a_solution(self):
        plain = Plain()
        for kind, given in [("rule", ([0, 0, 1], [2, 0, 2, 2, 1, 2])), ("one", (0, 1, [2, 0, 1])),
                            ("fact", (0, 0, 1))]:
            getattr(plain, kind)(*given)
        self.assertTrue(plain.clash)
        possible = [(2, first, second) for first in (0, 1, 100) for second in (0, 1, 100)]
        for amount in range(len(possible) + 1):
            for facts in itertools.combinations(possible, amount):
                self.assertFalse(plain.is_solution(set(facts)))


if __name__ == "__main__":
    unittest.main()
