"""One-rules, and the target made one by them."""

from keptup.atoms import TARGET, are_formed, atoms_of, have_places
from keptup.facts import is_known, put_as
from keptup.matching import joined


class OneRule:
    """A one-rule that is so formed."""

    def __init__(self, first, second, body):
        self.pair = [first, second]
        self.body = atoms_of(body)


def is_one_rule(first, second, body):
    """Whether a one-rule with these two places and this body is so formed."""
    return first != second and are_formed(body, TARGET) and have_places(atoms_of(body), [first, second])


def apart_by(one_rule, facts):
    """The two values of the first match by which the one-rule isn't kept, or None."""
    for first, seconds in joined(facts, one_rule.body, one_rule.pair):
        for second in seconds:
            two = first + second
            if two[0] != two[1]:
                return two
    return None


def first_apart(one_rules, facts):
    """The two values by which the first one-rule that isn't kept isn't kept, or None."""
    for one_rule in one_rules:
        two = apart_by(one_rule, facts)
        if two is not None:
            return two
    return None


def made_one(target, one_rules):
    """The target's facts made one, or None if it clashes."""
    facts = target
    two = first_apart(one_rules, facts)
    while two is not None:
        # Unknown values are above all known ones: if the greater one is known, both are.
        if is_known(max(two)):
            return None
        facts = put_as(facts, max(two), min(two))
        two = first_apart(one_rules, facts)
    return facts
