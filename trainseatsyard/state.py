"""One train: its legs and seats, its costs, the seats beside one another, its riders."""

MOST_LEGS = 8
MOST_SEATS = 5
MOST_COST = 10000
MOST_GROUP = 9
MOST_RIDERS = 20

DONE = 0
OUT_OF_BOUNDS = -1
NOT_THERE = -2
NO_NEW_PAIR = -3
NO_PLAN = -3
NO_ROOM_FOR_RIDERS = -5
TOO_FEW_SEATS = -6
NO_SEAT_FREE = -7


class Rider:
    def __init__(self, start, to, group, wished):
        self.start = start
        self.to = to
        self.group = group
        self.wished = wished


class Train:
    def __init__(self):
        self.legs = 0
        self.seats = 0
        self.move = 0
        self.wish = 0
        self.apart = 0
        self.beside = {}
        self.riders = []

    def begins(self, legs, seats, move, wish, apart):
        if legs < 1 or legs > MOST_LEGS or seats < 1 or seats > MOST_SEATS:
            return OUT_OF_BOUNDS
        if max(move, wish, apart) > MOST_COST:
            return OUT_OF_BOUNDS
        self.legs = legs
        self.seats = seats
        self.move = move
        self.wish = wish
        self.apart = apart
        self.beside = {}
        self.riders = []
        return DONE

    def pair(self, a, b):
        if a >= self.seats or b >= self.seats:
            return NOT_THERE
        if a == b or (a, b) in self.beside:
            return NO_NEW_PAIR
        # Kept both ways round, so that nobody who asks has to put the two in order.
        self.beside[(a, b)] = True
        self.beside[(b, a)] = True
        return DONE

    def rider(self, start, to, group, wished):
        if to <= start or to > self.legs or group > MOST_GROUP:
            return OUT_OF_BOUNDS
        # A wish is a seat's number and 1, so the last seat is wished by how many seats there are.
        if wished > self.seats:
            return NOT_THERE
        if len(self.riders) >= MOST_RIDERS:
            return NO_ROOM_FOR_RIDERS
        self.riders.append(Rider(start, to, group, wished))
        return len(self.riders) - 1

    def drop(self, i):
        if i >= len(self.riders):
            return NOT_THERE
        self.riders.pop(i)
        return DONE

    def aboard(self, leg):
        return [i for i, one in enumerate(self.riders) if one.start <= leg and leg < one.to]

    def how_full(self):
        return [len(self.aboard(leg)) for leg in range(self.legs)]

    def has_too_few_seats(self):
        return any([many > self.seats for many in self.how_full()])
