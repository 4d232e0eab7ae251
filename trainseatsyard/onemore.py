"""Where one more can sit while nobody else moves."""

from trainseatsyard.cheapest import earliest_plan, tables_of
from trainseatsyard.state import NO_SEAT_FREE, OUT_OF_BOUNDS, TOO_FEW_SEATS


def free_seats(train, seated):
    taken = list(seated.values())
    return [seat for seat in range(train.seats) if seat not in taken]


def free_until(free, seat, leg, to):
    behind = leg
    while behind < to and seat in free[behind]:
        behind += 1
    return behind


def seat_from(free, leg, to):
    # Of alike ones max answers the first, and the lower seat stands first.
    return max(free[leg], key=lambda seat: free_until(free, seat, leg, to))


def seats_on_the_way(free, start, to):
    seats = []
    seat = None
    for leg in range(start, to):
        if seat not in free[leg]:
            seat = seat_from(free, leg, to)
        seats.append(seat)
    return seats


def more(train, start, to):
    if to <= start or to > train.legs:
        return (OUT_OF_BOUNDS, [])
    if train.has_too_few_seats():
        return (TOO_FEW_SEATS, [])
    free = [free_seats(train, seated) for seated in earliest_plan(train, tables_of(train))]
    if not all(free[start:to]):
        return (NO_SEAT_FREE, [])
    seats = seats_on_the_way(free, start, to)
    moves = len([1 for seat, seat_behind in zip(seats, seats[1:]) if seat != seat_behind])
    return (moves, [seats])
