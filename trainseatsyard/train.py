"""The calls on one train, read from one list of whole numbers and answered in another."""

from trainseatsyard.state import Train

BEGINS = 0
PAIR = 1
RIDER = 2
DROP = 3

# How many whole numbers stand behind a call's own number, in the order of those.
WIDTHS = (5, 2, 4, 1)


class UnknownCall(ValueError):
    pass


def width_of(call):
    # Without its width, nobody can tell where the call behind it begins.
    if call > DROP:
        raise UnknownCall(f"there is no call {call}")
    return WIDTHS[call]


def answer_of(train, call, told):
    if call == BEGINS:
        return [train.begins(told[0], told[1], told[2], told[3], told[4])]
    if call == PAIR:
        return [train.pair(told[0], told[1])]
    if call == RIDER:
        return [train.rider(told[0], told[1], told[2], told[3])]
    return [train.drop(told[0])]


def answers(calls):
    train = Train()
    given = []
    at = 0
    while at < len(calls):
        behind = at + 1 + width_of(calls[at])
        answer = answer_of(train, calls[at], calls[at + 1:behind])
        given.append(len(answer))
        given.extend(answer)
        at = behind
    return given
