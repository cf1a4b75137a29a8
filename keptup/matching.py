"""How facts match atoms, seen through the places that are wanted alone.

Many matches look the same through few places. They are put together before they are paired, so that the work
grows with the facts and not with the pairs of facts.
"""

from keptup.atoms import places_of


def fitting(facts, atom):
    """The facts that match the atom, each by itself."""
    in_table = [fact for fact in facts if fact[0] == atom[0]]
    if atom[1] != atom[2]:
        return in_table
    return [fact for fact in in_table if fact[1] == fact[2]]


def looks(facts, atom, places):
    """Of each of the facts the values that it gives to these places of the atom: 2 at most."""
    slots = [1 if place == atom[1] else 2 for place in places]
    # Written out for each length: this is gone through more often than all else.
    if len(slots) == 0:
        return [() for fact in facts]
    first = slots[0]
    if len(slots) == 1:
        return [(fact[first],) for fact in facts]
    second = slots[1]
    return [(fact[first], fact[second]) for fact in facts]


def grouped(facts, atom, shared, wanted):
    """For the values in the shared places: the values in the wanted places, each once, in the facts' order."""
    fit = fitting(facts, atom)
    groups = {}
    for key, look in zip(looks(fit, atom, shared), looks(fit, atom, wanted)):
        group = groups.setdefault(key, {})
        group[look] = True
    return groups


def joined(facts, atoms, wanted):
    """The matches of 1 or 2 atoms by facts that are in order, seen through the wanted places.

    Gives back pairs: values of the wanted places that the first atom has, and a dict of all values of the other
    wanted places that go with them. Walked pair by pair, what is seen comes in the order of the first match
    that shows it.
    """
    first = atoms[0]
    of_first = [place for place in wanted if place in first[1:]]
    shared = []
    seconds = {(): {(): True}}
    if len(atoms) == 2:
        second = atoms[1]
        of_second = [place for place in wanted if place not in of_first]
        shared = [place for place in places_of([first]) if place in second[1:]]
        seconds = grouped(facts, second, shared, of_second)
    fit = fitting(facts, first)
    seen = {}
    for key, look in zip(looks(fit, first, shared), looks(fit, first, of_first)):
        if key in seconds:
            seen[(key, look)] = True
    return [(look, seconds[key]) for key, look in seen]


def matches(facts, atoms):
    """Of each match of the atoms, in order, the values of their places in the order in which they first come."""
    found = []
    for first, seconds in joined(facts, atoms, places_of(atoms)):
        for second in seconds:
            found.append(first + second)
    return found
