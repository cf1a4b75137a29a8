"""The house that a line's calls are about: the source, the rules, and what is kept up of them."""

from keptup.atoms import SOURCE, TARGET, are_formed, atoms_of
from keptup.facts import FIRST_UNKNOWN, in_order
from keptup.matching import matches
from keptup.merging import OneRule, is_one_rule, made_one
from keptup.questions import is_question, sure_rows
from keptup.rules import Rule, head_facts

NOT_FORMED = -1
NOT_THERE = -2
IS_THERE = -4
FULL = -7

MOST_RULES = 3
MOST_ONE_RULES = 3
MOST_FACTS = 6
VALUES_END = 20


def is_source_fact(table, one, other):
    """Whether the source may have this fact."""
    return SOURCE <= table <= SOURCE + 1 and one < VALUES_END and other < VALUES_END


class House:
    """A house as at a line's beginning; its methods are calls, and give back what is answered."""

    def __init__(self):
        self.rules = []
        self.one_rules = []
        self.source_facts = []
        self.places = []
        self.alternatives = []
        self.unknowns_of = {}
        self.next_unknown = FIRST_UNKNOWN
        self.target_facts = []
        self.made_facts = []

    def rule(self, body, head):
        """Takes in a rule."""
        if not are_formed(body, SOURCE) or not are_formed(head, TARGET):
            return [NOT_FORMED]
        if len(self.rules) == MOST_RULES:
            return [FULL]
        self.rules.append(Rule(body, head))
        return [len(self.rules) - 1] + self.news()

    def one(self, first, second, body):
        """Takes in a one-rule."""
        if not is_one_rule(first, second, body):
            return [NOT_FORMED]
        if len(self.one_rules) == MOST_ONE_RULES:
            return [FULL]
        self.one_rules.append(OneRule(first, second, body))
        return [len(self.one_rules) - 1] + self.news()

    def fact(self, table, one, other):
        """Takes a fact into the source."""
        if not is_source_fact(table, one, other):
            return [NOT_FORMED]
        if (table, one, other) in self.source_facts:
            return [IS_THERE]
        if len(self.source_facts) == MOST_FACTS:
            return [FULL]
        self.source_facts = in_order(self.source_facts + [(table, one, other)])
        return [len(self.source_facts)] + self.news()

    def gone(self, table, one, other):
        """Takes a fact out of the source."""
        if (table, one, other) not in self.source_facts:
            return [NOT_THERE]
        self.source_facts = [fact for fact in self.source_facts if fact != (table, one, other)]
        return [len(self.source_facts)] + self.news()

    def ask(self, places, alternatives):
        """Takes in the question."""
        if not is_question(places, alternatives):
            return [NOT_FORMED]
        self.places = places
        self.alternatives = [atoms_of(numbers) for numbers in alternatives]
        return [0]

    def news(self):
        """Keeps the target up with what was changed, and tells the news of that change."""
        old_facts = self.target_facts
        # Asked anew: the question may have changed since the change before.
        old_rows = sure_rows(self.made_facts, self.places, self.alternatives)
        self.hand_on()
        self.made_facts = made_one(self.target_facts, self.one_rules)
        rows = sure_rows(self.made_facts, self.places, self.alternatives)
        come = len(set(self.target_facts) - set(old_facts))
        left = len(set(old_facts) - set(self.target_facts))
        clashes = 1 if self.made_facts is None else 0
        return [come, left, clashes, len(set(rows) - set(old_rows)), len(set(old_rows) - set(rows))]

    def hand_on(self):
        """Finds the matches that are there now, and the target as they hand it on."""
        unknowns_of = {}
        target_facts = []
        for number, rule in enumerate(self.rules):
            for values in matches(self.source_facts, rule.body):
                match = (number, values)
                unknowns = self.unknowns_of.get(match)
                if unknowns is None:
                    unknowns = self.new_unknowns(len(rule.open_places))
                unknowns_of[match] = unknowns
                target_facts.extend(head_facts(rule, values, unknowns))
        # Matches that aren't there any more are left behind here, and their unknowns with them.
        self.unknowns_of = unknowns_of
        self.target_facts = in_order(target_facts)

    def new_unknowns(self, amount):
        """Gives the next unknowns, so many, which are then given for ever."""
        unknowns = tuple(range(self.next_unknown, self.next_unknown + amount))
        self.next_unknown += amount
        return unknowns
