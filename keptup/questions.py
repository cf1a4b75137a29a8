"""Questions, and the rows that are sure."""

from keptup.atoms import TARGET, are_formed, atoms_of, have_places, places_of
from keptup.facts import are_known
from keptup.matching import joined

MOST_PLACES = 2
MOST_ALTERNATIVES = 2


def is_alternative(numbers, places):
    """Whether an alternative is so formed and has the places that are asked for."""
    return are_formed(numbers, TARGET) and have_places(atoms_of(numbers), places)


def is_question(places, alternatives):
    """Whether a question with these places and alternatives is so formed."""
    if len(places) > MOST_PLACES or len(alternatives) > MOST_ALTERNATIVES:
        return False
    return all([is_alternative(numbers, places) for numbers in alternatives])


def known_rows(facts, atoms, places):
    """The rows of known values with which the facts match the atoms."""
    wanted = [place for place in places_of(atoms) if place in places]
    rows = []
    for first, seconds in joined(facts, atoms, wanted):
        if are_known(first):
            for second in seconds:
                if are_known(second):
                    value_at = dict(zip(wanted, first + second))
                    rows.append(tuple([value_at[place] for place in places]))
    return rows


def sure_rows(outcome, places, alternatives):
    """The rows that are sure, in order, by what's made one; none if it clashes."""
    rows = []
    if outcome.clash is None:
        for atoms in alternatives:
            rows.extend(known_rows(outcome.facts, atoms, places))
    return sorted(set(rows))
