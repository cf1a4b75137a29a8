"""Atoms: tuples of a table and two places, read from the numbers that are handed in."""

SOURCE = 0
TARGET = 2
LAST_PLACE = 4


def atoms_of(numbers):
    """The atoms that lie one behind another in these numbers."""
    return [tuple(numbers[at:at + 3]) for at in range(0, len(numbers), 3)]


def is_atom(atom, first_table):
    """Whether the table is one of the two from first_table on, and the places are places."""
    in_tables = first_table <= atom[0] <= first_table + 1
    return in_tables and atom[1] <= LAST_PLACE and atom[2] <= LAST_PLACE


def are_formed(numbers, first_table):
    """Whether these numbers are 1 or 2 atoms of the two tables from first_table on."""
    if len(numbers) != 3 and len(numbers) != 6:
        return False
    return all([is_atom(atom, first_table) for atom in atoms_of(numbers)])


def places_of(atoms):
    """The places of the atoms, each once, in the order in which they first come."""
    places = []
    for atom in atoms:
        for place in atom[1:]:
            if place not in places:
                places.append(place)
    return places


def have_places(atoms, places):
    """Whether each of the places is one of the atoms'."""
    had = places_of(atoms)
    return all([place in had for place in places])
