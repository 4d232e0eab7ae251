"""The calls on one train, read from one list of whole numbers and answered in another."""

from trainseatsyard.cheapest import best
from trainseatsyard.onemore import more
from trainseatsyard.plans import cost
from trainseatsyard.state import Train

BEGINS = 0
PAIR = 1
RIDER = 2
DROP = 3
FULL = 4
BEST = 5
COST = 6

# How many whole numbers each call, the last of them more, has behind its own; that of cost is how long its list is.
WIDTHS = (5, 2, 4, 1, 0, 0, 1, 2)


def end_of(calls, at):
    end = at + 1 + WIDTHS[calls[at]]
    if calls[at] == COST:
        return end + calls[at + 1]
    return end


def change_by(train, call, told):
    if call == BEGINS:
        return train.begins(told[0], told[1], told[2], told[3], told[4])
    if call == PAIR:
        return train.pair(told[0], told[1])
    if call == RIDER:
        return train.rider(told[0], told[1], told[2], told[3])
    return train.drop(told[0])


def look_by(train, call, told):
    if call == FULL:
        return (train.legs, [train.how_full()])
    if call == BEST:
        return best(train)
    if call == COST:
        return cost(train, told[1:])
    return more(train, told[0], told[1])


def laid_out(number, lists):
    laid = [number]
    for members in lists:
        laid.append(len(members))
        laid.extend(members)
    return laid


def answer_of(train, call, told):
    if call <= DROP:
        return [change_by(train, call, told)]
    answer = look_by(train, call, told)
    return laid_out(answer[0], answer[1])


def answers(calls):
    train = Train()
    given = []
    at = 0
    while at < len(calls):
        end = end_of(calls, at)
        answer = answer_of(train, calls[at], calls[at + 1:end])
        given.append(len(answer))
        given.extend(answer)
        at = end
    return given
