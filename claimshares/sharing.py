"""The calls on one desk, handed in and answered as lists of whole numbers."""

from claimshares.desk import Desk

NEW_CLASS = 0
CLAIM = 1
THERE = 2
SHARE = 3
WHOLE = 4
AGAIN = 5

# How many numbers each call has, its own number among them, but not those of a row.
CALL_SIZES = (2, 4, 3, 1, 1, 3, 3)


def call_size(calls, place):
    size = CALL_SIZES[calls[place]]
    if calls[place] == AGAIN:
        size += calls[place + 2]
    return size


def answer(desk, call):
    if call[0] == NEW_CLASS:
        return desk.new_class(call[1])
    if call[0] == CLAIM:
        return desk.claim(call[1], call[2], call[3])
    if call[0] == THERE:
        return desk.there(call[1], call[2])
    if call[0] == SHARE:
        return desk.share()
    if call[0] == WHOLE:
        return desk.whole()
    if call[0] == AGAIN:
        return desk.again(call[1], call[3:])
    return desk.drop(call[1], call[2])


def answers(calls):
    desk = Desk()
    result = []
    place = 0
    while place < len(calls):
        size = call_size(calls, place)
        numbers = answer(desk, calls[place:place + size])
        result.append(len(numbers))
        result.extend(numbers)
        place += size
    return result
