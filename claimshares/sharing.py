"""The calls on one desk, handed in and answered as lists of whole numbers."""

from claimshares.desk import Desk

NEW_CLASS = 0
CLAIM = 1
THERE = 2

# How many numbers each call has, its own number among them.
CALL_SIZES = (2, 4, 3, 1)


def answer(desk, call):
    if call[0] == NEW_CLASS:
        return desk.new_class(call[1])
    if call[0] == CLAIM:
        return desk.claim(call[1], call[2], call[3])
    if call[0] == THERE:
        return desk.there(call[1], call[2])
    return desk.share()


def answers(calls):
    desk = Desk()
    result = []
    place = 0
    while place < len(calls):
        size = CALL_SIZES[calls[place]]
        numbers = answer(desk, calls[place:place + size])
        result.append(len(numbers))
        result.extend(numbers)
        place += size
    return result
