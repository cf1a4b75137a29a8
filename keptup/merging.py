"""One-rules, and the target made one by them."""

from keptup.atoms import TARGET, are_formed, atoms_of, have_places
from keptup.facts import is_known, put_as
from keptup.matching import joined


class OneRule:
    """A one-rule that is so formed."""

    def __init__(self, first, second, body):
        self.pair = [first, second]
        self.body = atoms_of(body)


def is_one_rule(first, second, body):
    """Whether a one-rule with these two places and this body is so formed."""
    return first != second and are_formed(body, TARGET) and have_places(atoms_of(body), [first, second])


def apart_by(one_rule, facts):
    """The two values of the first match by which the one-rule isn't kept, or None."""
    for first, seconds in joined(facts, one_rule.body, one_rule.pair):
        for second in seconds:
            two = first + second
            if two[0] != two[1]:
                return two
    return None


def first_apart(one_rules, facts):
    """Which one-rule is the first that isn't kept, and its two values, the lesser first; or None."""
    for number, one_rule in enumerate(one_rules):
        two = apart_by(one_rule, facts)
        if two is not None:
            return (number, min(two), max(two))
    return None


class MadeOne:
    """The target made one, as far as it goes: its facts, how often two were made one, and the clash or None.

    A clash is the one-rule by which it clashes, and the two values, the lesser first.
    """

    def __init__(self, facts):
        self.facts = facts
        self.times = 0
        self.clash = None


def made_one(target_facts, one_rules):
    """The target's facts made one."""
    outcome = MadeOne(target_facts)
    apart = first_apart(one_rules, outcome.facts)
    while apart is not None:
        # Unknown values are above all known ones: if the greater one is known, both are.
        if is_known(apart[2]):
            outcome.clash = apart
            return outcome
        outcome.facts = put_as(outcome.facts, apart[2], apart[1])
        outcome.times += 1
        apart = first_apart(one_rules, outcome.facts)
    return outcome
