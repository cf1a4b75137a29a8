"""How facts match atoms, seen through the places that are wanted alone.

Many matches look the same through few places. They are put together before they are paired, so that the work
grows with the facts and not with the pairs of facts.
"""

from keptup.atoms import places_of


def fits(fact, atom):
    """Whether the fact alone matches the atom alone."""
    return fact[0] == atom[0] and (atom[1] != atom[2] or fact[1] == fact[2])


def values_in(fact, atom, places):
    """The values that the fact gives to these places of the atom."""
    return tuple([fact[1] if place == atom[1] else fact[2] for place in places])


def grouped(facts, atom, shared, wanted):
    """For the values in the shared places: the values in the wanted places, each once, in the facts' order."""
    groups = {}
    for fact in facts:
        if fits(fact, atom):
            group = groups.setdefault(values_in(fact, atom, shared), {})
            group[values_in(fact, atom, wanted)] = True
    return groups


def joined(facts, atoms, wanted):
    """The matches of 1 or 2 atoms by facts that are in order, seen through the wanted places.

    Gives back pairs: values of the wanted places that the first atom has, and a dict of all values of the other
    wanted places that go with them. Walked pair by pair, what is seen comes in the order of the first match
    that shows it.
    """
    first = atoms[0]
    of_first = [place for place in wanted if place in first[1:]]
    shared = []
    seconds = {(): {(): True}}
    if len(atoms) == 2:
        second = atoms[1]
        of_second = [place for place in wanted if place not in of_first]
        shared = [place for place in places_of([first]) if place in second[1:]]
        seconds = grouped(facts, second, shared, of_second)
    pairs = []
    seen = {}
    for fact in facts:
        if fits(fact, first):
            key = values_in(fact, first, shared)
            look = (key, values_in(fact, first, of_first))
            if key in seconds and look not in seen:
                seen[look] = True
                pairs.append((look[1], seconds[key]))
    return pairs


def matches(facts, atoms):
    """Of each match of the atoms, in order, the values of their places in the order in which they first come."""
    found = []
    for first, seconds in joined(facts, atoms, places_of(atoms)):
        for second in seconds:
            found.append(first + second)
    return found
