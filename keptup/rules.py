"""Rules, and what a match of one hands on."""

from keptup.atoms import atoms_of, places_of


class Rule:
    """A rule whose body and head are so formed."""

    def __init__(self, body, head):
        self.body = atoms_of(body)
        self.head = atoms_of(head)
        self.body_places = places_of(self.body)
        self.open_places = [place for place in places_of(self.head) if place not in self.body_places]


def head_facts(rule, values, unknowns):
    """The facts of the rule's head, with a match's values and its unknowns."""
    value_at = dict(zip(rule.body_places + rule.open_places, values + unknowns))
    return [(atom[0], value_at[atom[1]], value_at[atom[2]]) for atom in rule.head]
