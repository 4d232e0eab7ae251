"""The plans that cost least: what they cost, how many they are, and the earliest of them.

A sitting is a tuple of seats, one for each of some riders, in the order of their numbers. The legs are gone through
from the last to the first: for each sitting of those on a leg it is kept what this leg and those behind it cost at
least. Between two legs only those who stay aboard can move, so that sittings alike in these are taken together.
"""

from trainseatsyard.plans import leg_cost, moves_between
from trainseatsyard.state import TOO_FEW_SEATS


class Least:
    def __init__(self, price, ways):
        self.price = price
        self.ways = ways


def least_of(prices, ways):
    price = min(prices)
    return Least(price, sum([many for many, other in zip(ways, prices) if other == price]))


def sittings_of(seats, riders):
    # Built seat by seat from the lowest, so that the earlier sitting stands first.
    sittings = [()]
    for place in range(riders):
        longer = []
        for sitting in sittings:
            longer.extend([sitting + (seat,) for seat in range(seats) if seat not in sitting])
        sittings = longer
    return sittings


def moved(sitting, other):
    return len([1 for seat, seat_behind in zip(sitting, other) if seat != seat_behind])


class Stays:
    # All sittings of so many who stay aboard, and between each two of them how many move.
    def __init__(self, seats, riders):
        sittings = sittings_of(seats, riders)
        moves = []
        for sitting in sittings:
            moves.append([moved(sitting, other) for other in sittings])
        self.sittings = sittings
        self.moves = moves


def part_of(sitting, aboard, some):
    return tuple([seat for i, seat in zip(aboard, sitting) if i in some])


def least_by_part(table, aboard, some):
    prices = {}
    ways = {}
    for sitting, least in table.items():
        part = part_of(sitting, aboard, some)
        prices.setdefault(part, []).append(least.price)
        ways.setdefault(part, []).append(least.ways)
    found = {}
    for part in prices:
        found[part] = least_of(prices[part], ways[part])
    return found


def least_with_moves(move, stays, behind):
    prices = [behind[sitting].price for sitting in stays.sittings]
    ways = [behind[sitting].ways for sitting in stays.sittings]
    found = {}
    for sitting, row in zip(stays.sittings, stays.moves):
        found[sitting] = least_of([price + move * moves for price, moves in zip(prices, row)], ways)
    return found


def table_of(train, leg, staying, onward):
    aboard = train.aboard(leg)
    table = {}
    for sitting in sittings_of(train.seats, len(aboard)):
        least = onward[part_of(sitting, aboard, staying)]
        price = least.price + leg_cost(train, dict(zip(aboard, sitting)))
        table[sitting] = Least(price, least.ways)
    return table


def tables_of(train):
    # Behind the last leg nobody rides: there is one sitting, of nobody, and it costs nothing.
    table = {(): Least(0, 1)}
    tables = [table]
    # The moves between sittings are alike on all legs; working them out anew on each would take most of the time.
    stays = {}
    for leg in range(train.legs - 1, -1, -1):
        behind = train.aboard(leg + 1)
        staying = [i for i in train.aboard(leg) if i in behind]
        many = len(staying)
        if many not in stays:
            stays[many] = Stays(train.seats, many)
        onward = least_with_moves(train.move, stays[many], least_by_part(table, behind, staying))
        table = table_of(train, leg, staying, onward)
        tables.append(table)
    tables.reverse()
    return tables


def earliest_seated(train, leg, table, seated_before):
    aboard = train.aboard(leg)

    def price_from_here(sitting):
        return train.move * moves_between(seated_before, dict(zip(aboard, sitting))) + table[sitting].price

    # Of alike ones min answers the first, and a table has the earlier sitting first.
    return dict(zip(aboard, min(list(table), key=price_from_here)))


def earliest_plan(train, tables):
    plan = []
    seated = {}
    for leg in range(train.legs):
        seated = earliest_seated(train, leg, tables[leg], seated)
        plan.append(seated)
    return plan


def seats_of(plan, i):
    return [seated[i] for seated in plan if i in seated]


def best(train):
    if train.has_too_few_seats():
        return (TOO_FEW_SEATS, [])
    tables = tables_of(train)
    plan = earliest_plan(train, tables)
    # Nobody is aboard ahead of the first leg, so that all its sittings are taken together.
    least = least_by_part(tables[0], [], [])[()]
    return (least.price, [[least.ways]] + [seats_of(plan, i) for i in range(len(train.riders))])
