"""Facts: tuples of a table and two values, so that Python's order of tuples is the facts' order."""

FIRST_UNKNOWN = 100


def is_known(value):
    """Whether the value is known."""
    return value < FIRST_UNKNOWN


def are_known(values):
    """Whether all the values are known."""
    return all([value < FIRST_UNKNOWN for value in values])


def in_order(facts):
    """The facts in their order, each once."""
    return sorted(set(facts))


def put_as(facts, old, new):
    """The facts with the value new wherever they have the value old."""
    changed = []
    for fact in facts:
        one = new if fact[1] == old else fact[1]
        other = new if fact[2] == old else fact[2]
        changed.append((fact[0], one, other))
    return in_order(changed)
