"""The document's words done as plainly and as slowly as they stand, for tests to hold the program against."""

import itertools


def atoms_in(numbers, tables):
    """The atoms, or None if the numbers aren't so formed."""
    if len(numbers) not in (3, 6):
        return None
    atoms = [tuple(numbers[at:at + 3]) for at in range(0, len(numbers), 3)]
    good = all(table in tables and one in range(5) and other in range(5) for table, one, other in atoms)
    return atoms if good else None


def all_matches(facts, atoms):
    """All matches in order, each as a dict of its values by place."""
    found = []
    for chosen in itertools.product(sorted(facts), repeat=len(atoms)):
        values = {}
        fitting = True
        for (table, one_place, other_place), (in_table, one_value, other_value) in zip(atoms, chosen):
            fitting = fitting and table == in_table
            fitting = fitting and values.setdefault(one_place, one_value) == one_value
            fitting = fitting and values.setdefault(other_place, other_value) == other_value
        if fitting:
            found.append(values)
    return found


def places_in(atoms):
    return list(dict.fromkeys(place for atom in atoms for place in atom[1:]))


def flat(parts):
    return [number for part in parts for number in part]


def rows_of(facts, places, alternatives):
    return {tuple(values[place] for place in places) for atoms in alternatives for values in all_matches(facts, atoms)}


class Plain:
    """The house, told from the document alone."""

    def __init__(self):
        self.rules, self.ones, self.source, self.question = [], [], set(), ([], [])
        self.given, self.after, self.handed_on = {}, 100, set()
        self.solved, self.times, self.clash = set(), 0, None

    def begins(self):
        self.__init__()
        return [0]

    def rule(self, body, head):
        if atoms_in(body, (0, 1)) is None or atoms_in(head, (2, 3)) is None:
            return [-1]
        if len(self.rules) >= 3:
            return [-7]
        self.rules.append((atoms_in(body, (0, 1)), atoms_in(head, (2, 3))))
        return [len(self.rules) - 1] + self.changed()

    def one(self, first, second, body):
        atoms = atoms_in(body, (2, 3))
        if atoms is None or first == second or not {first, second} <= set(places_in(atoms)):
            return [-1]
        if len(self.ones) >= 3:
            return [-7]
        self.ones.append((first, second, atoms))
        return [len(self.ones) - 1] + self.changed()

    def fact(self, *new):
        if new[0] not in (0, 1) or new[1] >= 20 or new[2] >= 20:
            return [-1]
        if new in self.source:
            return [-4]
        if len(self.source) >= 6:
            return [-7]
        self.source.add(new)
        return [len(self.source)] + self.changed()

    def gone(self, *old):
        if old not in self.source:
            return [-2]
        self.source.remove(old)
        return [len(self.source)] + self.changed()

    def ask(self, places, *alternatives):
        atoms = [atoms_in(numbers, (2, 3)) for numbers in alternatives]
        if len(places) > 2 or len(atoms) > 2 or None in atoms:
            return [-1]
        if any(place not in places_in(alternative) for place in places for alternative in atoms):
            return [-1]
        self.question = (places, atoms)
        return [0]

    def target(self):
        return [len(self.handed_on)] + flat(sorted(self.handed_on))

    def made(self):
        if self.clash:
            return [-9] + self.clash
        return [len(self.solved), self.times] + flat(sorted(self.solved))

    def sure(self):
        if self.clash:
            return [-9]
        return [len(self.sure_rows())] + flat(sorted(self.sure_rows()))

    def why(self, *fact):
        handing = []
        for which, (body, head) in enumerate(self.rules):
            for values in all_matches(self.source, body):
                match = [values[place] for place in places_in(body)]
                full = {**values, **self.given[which, tuple(match)]}
                if any(fact == (table, full[one_place], full[other]) for table, one_place, other in head):
                    handing.append([which, len(match)] + match)
        return [len(handing)] + flat(handing) if fact in self.handed_on else [-2]

    def state(self):
        amount = sum(len(all_matches(self.source, body)) for body, head in self.rules)
        return [len(self.source), amount, self.after]

    def sure_rows(self):
        if self.clash:
            return set()
        return {row for row in rows_of(self.solved, *self.question) if all(value < 100 for value in row)}

    def changed(self):
        facts, rows = self.handed_on, self.sure_rows()
        self.hand_on()
        self.make_one()
        return [len(self.handed_on - facts), len(facts - self.handed_on), 1 if self.clash else 0,
                len(self.sure_rows() - rows), len(rows - self.sure_rows())]

    def hand_on(self):
        there = {}
        self.handed_on = set()
        for which, (body, head) in enumerate(self.rules):
            closed = places_in(body)
            for values in all_matches(self.source, body):
                match = (which, tuple(values[place] for place in closed))
                if match not in self.given:
                    names = {}
                    for place in places_in(head):
                        if place not in closed:
                            names[place] = self.after
                            self.after += 1
                    self.given[match] = names
                there[match] = self.given[match]
                full = {**values, **there[match]}
                self.handed_on |= {(table, full[one_place], full[other]) for table, one_place, other in head}
        self.given = there

    def first_not_kept(self):
        for which, (first, second, atoms) in enumerate(self.ones):
            for values in all_matches(self.solved, atoms):
                if values[first] != values[second]:
                    return [which] + sorted([values[first], values[second]])
        return None

    def make_one(self):
        self.solved, self.times, self.clash = set(self.handed_on), 0, None
        found = self.first_not_kept()
        while found is not None:
            which, lesser, greater = found
            if greater < 100:
                self.clash = found
                return
            put = {greater: lesser}
            self.solved = {(table, put.get(one, one), put.get(other, other)) for table, one, other in self.solved}
            self.times += 1
            found = self.first_not_kept()

    def is_solution(self, facts):
        """Whether these facts of the target are a solution."""
        for body, head in self.rules:
            answered = all_matches(facts, head)
            for values in all_matches(self.source, body):
                shared = [place for place in places_in(head) if place in values]
                if not any(all(full[place] == values[place] for place in shared) for full in answered):
                    return False
        return all(values[first] == values[second]
                   for first, second, atoms in self.ones for values in all_matches(facts, atoms))
