"""What a plan is and what it costs.

A plan is kept as a list with a dict for each leg: the seats of those on it, by the riders' numbers.
"""

from trainseatsyard.state import NO_PLAN


def wishes_not_kept(train, seated):
    # A wish is a seat's number and 1; 0 is no wish, which any seat keeps.
    return len([i for i in seated if train.riders[i].wished not in (0, seated[i] + 1)])


def are_one_group(train, i, j):
    return train.riders[i].group != 0 and train.riders[i].group == train.riders[j].group


def pairs_apart(train, seated):
    apart = 0
    for i in seated:
        for j in seated:
            if i < j and are_one_group(train, i, j) and (seated[i], seated[j]) not in train.beside:
                apart += 1
    return apart


def leg_cost(train, seated):
    return train.wish * wishes_not_kept(train, seated) + train.apart * pairs_apart(train, seated)


def moves_between(seated, seated_behind):
    return len([i for i in seated if i in seated_behind and seated[i] != seated_behind[i]])


def moves_of(plan):
    return sum([moves_between(plan[leg], plan[leg + 1]) for leg in range(len(plan) - 1)])


def cost_of(train, plan):
    return train.move * moves_of(plan) + sum([leg_cost(train, seated) for seated in plan])


def rows_of(told):
    # How many legs are told stands ahead; nothing lies behind the last leg, so the end says it too.
    rows = []
    at = 1
    while at < len(told):
        behind = at + 1 + told[at]
        rows.append(told[at + 1:behind])
        at = behind
    return rows


def seats_those_aboard(train, leg, row):
    if len(row) != len(train.aboard(leg)) or len(set(row)) != len(row):
        return False
    return all([seat < train.seats for seat in row])


def is_plan(train, rows):
    if len(rows) != train.legs:
        return False
    return all([seats_those_aboard(train, leg, row) for leg, row in enumerate(rows)])


def cost(train, told):
    rows = rows_of(told)
    if not is_plan(train, rows):
        return (NO_PLAN, [])
    plan = [dict(zip(train.aboard(leg), row)) for leg, row in enumerate(rows)]
    return (cost_of(train, plan), [[moves_of(plan)]])
