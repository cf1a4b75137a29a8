"""The house that a line's calls are about: the source, the rules, and what is kept up of them."""

from keptup.atoms import SOURCE, TARGET, are_formed, atoms_of
from keptup.facts import FIRST_UNKNOWN, in_order
from keptup.matching import matches
from keptup.merging import MadeOne, OneRule, is_one_rule, made_one
from keptup.questions import is_question, sure_rows
from keptup.rules import Rule, head_facts

NOT_FORMED = -1
NOT_THERE = -2
IS_THERE = -4
FULL = -7
CLASHES = -9

MOST_RULES = 3
MOST_ONE_RULES = 3
MOST_FACTS = 6
VALUES_END = 20


def is_source_fact(table, one, other):
    """Whether the source may have this fact."""
    return SOURCE <= table <= SOURCE + 1 and one < VALUES_END and other < VALUES_END


def one_behind_another(parts):
    """One list of all that the parts hold, part by part."""
    whole = []
    for part in parts:
        whole.extend(part)
    return whole


class House:
    """A house as at a line's beginning; its methods are calls, and give back what is answered."""

    def __init__(self):
        self.rules = []
        self.one_rules = []
        self.source_facts = []
        self.places = []
        self.alternatives = []
        self.unknowns_of = {}
        self.next_unknown = FIRST_UNKNOWN
        self.target_facts = []
        self.outcome = MadeOne([])

    def rule(self, body, head):
        """Takes in a rule."""
        if not are_formed(body, SOURCE) or not are_formed(head, TARGET):
            return [NOT_FORMED]
        if len(self.rules) == MOST_RULES:
            return [FULL]
        self.rules.append(Rule(body, head))
        return [len(self.rules) - 1] + self.news()

    def one(self, first, second, body):
        """Takes in a one-rule."""
        if not is_one_rule(first, second, body):
            return [NOT_FORMED]
        if len(self.one_rules) == MOST_ONE_RULES:
            return [FULL]
        self.one_rules.append(OneRule(first, second, body))
        return [len(self.one_rules) - 1] + self.news()

    def fact(self, table, one, other):
        """Takes a fact into the source."""
        if not is_source_fact(table, one, other):
            return [NOT_FORMED]
        if (table, one, other) in self.source_facts:
            return [IS_THERE]
        if len(self.source_facts) == MOST_FACTS:
            return [FULL]
        self.source_facts = in_order(self.source_facts + [(table, one, other)])
        return [len(self.source_facts)] + self.news()

    def gone(self, table, one, other):
        """Takes a fact out of the source."""
        if (table, one, other) not in self.source_facts:
            return [NOT_THERE]
        self.source_facts = [fact for fact in self.source_facts if fact != (table, one, other)]
        return [len(self.source_facts)] + self.news()

    def ask(self, places, alternatives):
        """Takes in the question."""
        if not is_question(places, alternatives):
            return [NOT_FORMED]
        self.places = places
        self.alternatives = [atoms_of(numbers) for numbers in alternatives]
        return [0]

    def target(self):
        """Tells the target's facts."""
        return [len(self.target_facts)] + one_behind_another(self.target_facts)

    def made(self):
        """Tells what there is when all's made one, or how it clashes."""
        if self.outcome.clash is not None:
            return [CLASHES] + list(self.outcome.clash)
        facts = self.outcome.facts
        return [len(facts), self.outcome.times] + one_behind_another(facts)

    def sure(self):
        """Tells the rows that are sure."""
        if self.outcome.clash is not None:
            return [CLASHES]
        rows = self.rows_now()
        return [len(rows)] + one_behind_another(rows)

    def why(self, table, one, other):
        """Tells the matches that hand on a fact of the target."""
        matches_told = []
        amount = 0
        for match in self.unknowns_of:
            if (table, one, other) in self.handed_on_by(match):
                amount += 1
                matches_told.extend([match[0], len(match[1])] + list(match[1]))
        if amount == 0:
            return [NOT_THERE]
        return [amount] + matches_told

    def state(self):
        """Tells how many facts the source has, how many matches there are, and the next unknown."""
        return [len(self.source_facts), len(self.unknowns_of), self.next_unknown]

    def news(self):
        """Keeps the target up with what was changed, and tells the news of that change."""
        old_facts = self.target_facts
        # Asked anew: the question may have changed since the change before.
        old_rows = self.rows_now()
        self.hand_on()
        self.outcome = made_one(self.target_facts, self.one_rules)
        rows = self.rows_now()
        come = len(set(self.target_facts) - set(old_facts))
        left = len(set(old_facts) - set(self.target_facts))
        clashes = 0 if self.outcome.clash is None else 1
        return [come, left, clashes, len(set(rows) - set(old_rows)), len(set(old_rows) - set(rows))]

    def rows_now(self):
        """The rows that are sure by the question that stands now; none where it clashes."""
        return sure_rows(self.outcome, self.places, self.alternatives)

    def handed_on_by(self, match):
        """The facts that a match which is there hands on."""
        return head_facts(self.rules[match[0]], match[1], self.unknowns_of[match])

    def hand_on(self):
        """Finds the matches that are there now, and the target as they hand it on."""
        unknowns_of = {}
        for number, rule in enumerate(self.rules):
            for values in matches(self.source_facts, rule.body):
                match = (number, values)
                unknowns = self.unknowns_of.get(match)
                if unknowns is None:
                    unknowns = self.new_unknowns(len(rule.open_places))
                unknowns_of[match] = unknowns
        # Matches that aren't there any more are left behind here, and their unknowns with them.
        self.unknowns_of = unknowns_of
        self.target_facts = in_order(one_behind_another([self.handed_on_by(match) for match in unknowns_of]))

    def new_unknowns(self, amount):
        """Gives the next unknowns, so many, which are then given for ever."""
        unknowns = tuple(range(self.next_unknown, self.next_unknown + amount))
        self.next_unknown += amount
        return unknowns
