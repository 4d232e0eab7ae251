"""What the tests share: calls as lists of whole numbers, ways to hand several in, and all plans one by one."""

from itertools import combinations, permutations, product

from trainseatsyard.train import answers

HIGHEST = 4294967295


def begins(legs=8, seats=5, move=1, wish=1, apart=1):
    return [0, legs, seats, move, wish, apart]


def pair(a, b):
    return [1, a, b]


def rider(start=0, to=1, group=0, wished=0):
    return [2, start, to, group, wished]


def drop(i):
    return [3, i]


def full():
    return [4]


def best():
    return [5]


def cost(rows):
    told = [len(rows)]
    for row in rows:
        told += [len(row), *row]
    return [6, len(told), *told]


def more(start, to):
    return [7, start, to]


def laid(calls):
    return [number for call in calls for number in call]


def asked(*calls):
    """What each call answers; fails if an answer is not one number alone."""
    given = answers(laid(calls))
    if len(given) != 2 * len(calls) or any(count != 1 for count in given[::2]):
        raise AssertionError(f"not one number a call: {given}")
    return given[1::2]


def read(answer):
    """One answer as its number and its lists; fails if a length does not fit."""
    lists = []
    at = 1
    while at < len(answer):
        members = answer[at + 1:at + 1 + answer[at]]
        if len(members) != answer[at]:
            raise AssertionError(f"a list is cut off: {answer}")
        lists.append(members)
        at += 1 + answer[at]
    return answer[0], lists


def heard(*calls):
    """What each call answers, as its number and its lists; fails if there are not as many answers as calls."""
    given = answers(laid(calls))
    found = []
    at = 0
    while at < len(given):
        answer = given[at + 1:at + 1 + given[at]]
        if not answer or len(answer) != given[at]:
            raise AssertionError(f"an answer is cut off: {given}")
        found.append(read(answer))
        at += 1 + given[at]
    if len(found) != len(calls):
        raise AssertionError(f"not one answer a call: {given}")
    return found


def last(*calls):
    """What the last of several calls answers."""
    return heard(*calls)[-1]


class Plain:
    """A train whose plans are all told one by one, straight from the document's words."""

    def __init__(self, costs, legs, seats, pairs, riders):
        self.move, self.wish, self.apart = costs
        self.legs, self.seats, self.pairs, self.riders = legs, seats, pairs, riders

    def calls(self):
        return [begins(self.legs, self.seats, self.move, self.wish, self.apart),
                *[pair(a, b) for a, b in self.pairs], *[rider(*told) for told in self.riders]]

    def aboard(self, leg):
        return [i for i, told in enumerate(self.riders) if leg in range(told[0], told[1])]

    def plans(self):
        """All plans as rows of seats, the earlier ones first."""
        return product(*[list(permutations(range(self.seats), len(self.aboard(leg)))) for leg in range(self.legs)])

    def how_many_plans(self):
        many = 1
        for leg in range(self.legs):
            for taken in range(len(self.aboard(leg))):
                many *= self.seats - taken
        return many

    def seats_by(self, plan, i):
        return [row[self.aboard(leg).index(i)] for leg, row in enumerate(plan) if i in self.aboard(leg)]

    def moves(self, plan):
        ways = [self.seats_by(plan, i) for i in range(len(self.riders))]
        return sum(way[k] != way[k + 1] for way in ways for k in range(len(way) - 1))

    def price(self, plan):
        total = self.move * self.moves(plan)
        for leg, row in enumerate(plan):
            seated = list(zip([self.riders[i] for i in self.aboard(leg)], row))
            for (_, _, _, wished), seat in seated:
                total += self.wish * (wished > 0 and wished - 1 != seat)
            for ((_, _, group, _), a), ((_, _, other, _), b) in combinations(seated, 2):
                near = (a, b) in self.pairs or (b, a) in self.pairs
                total += self.apart * (group == other and group > 0 and not near)
        return total

    def best(self):
        priced = [(self.price(plan), plan) for plan in self.plans()]
        if not priced:
            return -6, [], None
        least = min(price for price, plan in priced)
        cheapest = [plan for price, plan in priced if price == least]
        lists = [self.seats_by(cheapest[0], i) for i in range(len(self.riders))]
        return least, [[len(cheapest)], *lists], cheapest[0]
