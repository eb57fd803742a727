"""A list of calls on one holder of a text, and the list of their answers."""

from textends.holder import Holder

# The calls' numbers; an open is a call to hold a text.
HOLD = 1
AT = 2
FIND = 3
COMMON = 4
TWICE = 5
PIECES = 6
PIECE = 7
TURN = 8
BACK = 9


class UnknownCall(ValueError):
    """No call has this number."""


def call_size(calls, begin):
    """How many numbers the call that begins there has, its own number among them."""
    number = calls[begin]
    if number == HOLD or number == FIND:
        return 3 + calls[begin + 2]
    if number == BACK:
        return 4 + calls[begin + 3]
    if number == COMMON:
        return 3
    if number == AT or number == TWICE or number == PIECE:
        return 2
    if number == PIECES or number == TURN:
        return 1
    raise UnknownCall(f"no call has the number {number}")


def answer(holder, call):
    """What the holder answers to one call, which has a number that call_size knows."""
    number = call[0]
    if number == HOLD:
        return holder.hold(call[1], call[3:])
    if number == AT:
        return holder.at(call[1])
    if number == FIND:
        return holder.find(call[1], call[3:])
    if number == COMMON:
        return holder.common(call[1], call[2])
    if number == TWICE:
        return holder.twice(call[1])
    if number == PIECES:
        return holder.pieces()
    if number == PIECE:
        return holder.piece(call[1])
    if number == TURN:
        return holder.turn()
    return holder.back(call[1], call[2], call[4:])


def answers(calls):
    """For each call, in order, how many numbers are answered, then these."""
    holder = Holder()
    told = []
    begin = 0
    while begin < len(calls):
        size = call_size(calls, begin)
        numbers = answer(holder, calls[begin:begin + size])
        told.append(len(numbers))
        told.extend(numbers)
        begin += size
    return told
