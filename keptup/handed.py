"""The calls as they are handed in, one list of numbers, and their answers as they are given back."""

from keptup.house import House
from keptup.reader import Reader

BEGINS = 0
RULE = 1
ONE = 2
FACT = 3
GONE = 4
ASK = 5
TARGET = 6
MADE = 7
SURE = 8
WHY = 9
STATE = 10


class NoSuchCall(ValueError):
    """A call's number is none of those above."""


def answer(house, call, numbers, lists):
    """What the house answers to one call but begins."""
    if call == RULE:
        return house.rule(lists[0], lists[1])
    if call == ONE:
        return house.one(numbers[0], numbers[1], lists[0])
    if call == FACT:
        return house.fact(numbers[0], numbers[1], numbers[2])
    if call == GONE:
        return house.gone(numbers[0], numbers[1], numbers[2])
    if call == ASK:
        return house.ask(lists[0], lists[1:])
    if call == TARGET:
        return house.target()
    if call == MADE:
        return house.made()
    if call == SURE:
        return house.sure()
    if call == WHY:
        return house.why(numbers[0], numbers[1], numbers[2])
    if call == STATE:
        return house.state()
    raise NoSuchCall("no such call")


def answers(calls):
    """The answers to all calls of the list, in order, each with how many numbers it has ahead."""
    reader = Reader(calls)
    house = House()
    answered = []
    while not reader.is_done():
        call = reader.take()
        numbers = reader.take_list()
        lists = reader.take_lists()
        if call == BEGINS:
            house = House()
            given = [0]
        else:
            given = answer(house, call, numbers, lists)
        answered.append(len(given))
        answered.extend(given)
    return answered
