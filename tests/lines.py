"""Calls as they are laid out in a line, and a line's answers call by call."""

from keptup.handed import answers

MOST = 4294967295


def laid_out(call, numbers, lists):
    line = [call, len(numbers)] + list(numbers) + [len(lists)]
    for one_list in lists:
        line += [len(one_list)] + list(one_list)
    return line


def begins():
    return laid_out(0, [], [])


def rule(body, head):
    return laid_out(1, [], [body, head])


def one(first, second, body):
    return laid_out(2, [first, second], [body])


def fact(table, first, second):
    return laid_out(3, [table, first, second], [])


def gone(table, first, second):
    return laid_out(4, [table, first, second], [])


def ask(places, *alternatives):
    return laid_out(5, [], [places] + list(alternatives))


def target():
    return laid_out(6, [], [])


def made():
    return laid_out(7, [], [])


def sure():
    return laid_out(8, [], [])


def why(table, first, second):
    return laid_out(9, [table, first, second], [])


def state():
    return laid_out(10, [], [])


def line_of(calls):
    return [number for call in calls for number in call]


def split(answered):
    """The answers of a line, one list for each call."""
    given = []
    at = 0
    while at < len(answered):
        length = answered[at]
        given.append(answered[at + 1:at + 1 + length])
        at += 1 + length
    return given


def told(*calls):
    """What is answered to each of the calls, handed in as one line."""
    given = split(answers(line_of(calls)))
    assert len(given) == len(calls), "as many answers as calls"
    return given


def last(*calls):
    """What is answered to the last of the calls."""
    return told(*calls)[-1]


def tupled(numbers, length):
    """The numbers as tuples of this length, one behind another."""
    return [tuple(numbers[at:at + length]) for at in range(0, len(numbers), length)]


def target_after(*calls):
    """The target's facts behind the calls."""
    given = last(*calls, target())
    assert len(given) == 1 + 3 * given[0], "as many facts as are told"
    return tupled(given[1:], 3)
