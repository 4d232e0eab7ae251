import random
import time
import unittest
from itertools import product

from told import HIGHEST, Plain, begins, best, drop, full, heard, last, more, pair, rider


def taken(seats, rows):
    """A train on which, leg by leg, these seats are taken: each by a rider of its own who wishes for it."""
    riders = [rider(leg, leg + 1, 0, seat + 1) for leg, row in enumerate(rows) for seat in row]
    return [begins(len(rows), seats, 0, 1, 0), *riders]


def sits(free, start, to):
    """Where one more sits, straight from the document's words."""
    seats = []
    while start < to:
        runs = {}
        for seat in free[start]:
            legs = 0
            while start + legs < to and seat in free[start + legs]:
                legs += 1
            runs[seat] = legs
        longest = max(runs.values())
        seats += [min(seat for seat in runs if runs[seat] == longest)] * longest
        start += longest
    return seats


def moves_of(seats):
    return sum(seats[k] != seats[k + 1] for k in range(len(seats) - 1))


class More(unittest.TestCase):
    def test_before_any_begins(self):
        for start, to in ((0, 0), (0, 1), (1, 0), (HIGHEST, HIGHEST), (0, HIGHEST)):
            self.assertEqual(last(more(start, to)), (-1, []), (start, to))

    def test_every_way_from_stop_to_stop(self):
        for legs in range(1, 9):
            for start in range(legs + 3):
                for to in range(legs + 3):
                    wanted = (0, [[0] * (to - start)]) if start < to <= legs else (-1, [])
                    self.assertEqual(last(begins(legs), more(start, to)), wanted, (legs, start, to))

    def test_highest_stops(self):
        for start, to in ((0, HIGHEST), (HIGHEST, 1), (HIGHEST, HIGHEST), (HIGHEST - 1, HIGHEST)):
            self.assertEqual(last(begins(), more(start, to)), (-1, []), (start, to))

    def test_wrong_stops_ahead_of_too_few_seats(self):
        told = [begins(3, 1), rider(0, 1), rider(0, 1)]
        for start, to in ((1, 1), (2, 1), (2, 4), (0, 4), (3, 4), (HIGHEST, HIGHEST)):
            self.assertEqual(last(*told, more(start, to)), (-1, []), (start, to))

    def test_wrong_stops_ahead_of_no_seat_free(self):
        told = [begins(3, 1), rider(0, 3)]
        for start, to in ((1, 1), (2, 1), (2, 4), (0, 4)):
            self.assertEqual(last(*told, more(start, to)), (-1, []), (start, to))

    def test_too_few_seats_on_any_leg(self):
        for leg in range(3):
            told = [begins(3, 2), *[rider(leg, leg + 1)] * 3]
            for start, to in ((0, 1), (1, 2), (2, 3), (0, 3)):
                self.assertEqual(last(*told, more(start, to)), (-6, []), (leg, start, to))

    def test_too_few_seats_ahead_of_no_seat_free(self):
        self.assertEqual(last(begins(2, 1), rider(0, 2), rider(1, 2), more(0, 1)), (-6, []))

    def test_no_seat_free_on_a_full_leg(self):
        for seats in range(1, 6):
            told = [begins(4, seats), *[rider(2, 3)] * seats]
            for start, to in ((2, 3), (0, 3), (2, 4), (0, 4), (1, 3)):
                self.assertEqual(last(*told, more(start, to)), (-7, []), (seats, start, to))

    def test_a_full_leg_outside_the_ride(self):
        for seats in range(1, 6):
            told = [begins(4, seats), *[rider(2, 3)] * seats]
            self.assertEqual(last(*told, more(0, 2)), (0, [[0, 0]]), seats)
            self.assertEqual(last(*told, more(3, 4)), (0, [[0]]), seats)

    def test_without_riders(self):
        self.assertEqual(last(begins(8, 5), more(0, 8)), (0, [[0] * 8]))

    def test_the_seat_that_stays_free_for_the_most_legs(self):
        told = taken(3, [[], [0], [0, 1], [0, 1]])
        self.assertEqual(last(*told, more(0, 4)), (0, [[2, 2, 2, 2]]))
        self.assertEqual(last(*told, more(0, 3)), (0, [[2, 2, 2]]))
        self.assertEqual(last(*told, more(1, 3)), (0, [[2, 2]]))

    def test_only_legs_up_to_where_they_get_off_count(self):
        told = taken(3, [[], [0], [0, 1], [0, 1]])
        self.assertEqual(last(*told, more(0, 2)), (0, [[1, 1]]))
        self.assertEqual(last(*told, more(0, 1)), (0, [[0]]))

    def test_of_alike_ones_the_lowest(self):
        self.assertEqual(last(*taken(4, [[0], [0], [1, 2, 3]]), more(0, 3)), (1, [[1, 1, 0]]))
        self.assertEqual(last(*taken(4, [[0], [0, 1], [0, 2, 3]]), more(0, 3)), (1, [[2, 2, 1]]))

    def test_a_break_ends_it(self):
        told = taken(2, [[], [0], [], [], [1]])
        self.assertEqual(last(*told, more(0, 5)), (1, [[1, 1, 1, 1, 0]]))
        told = taken(3, [[2], [0], [2], [2], [1, 2]])
        self.assertEqual(last(*told, more(0, 4)), (0, [[1, 1, 1, 1]]))

    def test_a_seat_free_before_the_ride_counts_from_its_first_leg_alone(self):
        told = taken(2, [[1], [1], [], [0]])
        self.assertEqual(last(*told, more(2, 4)), (0, [[1, 1]]))

    def test_several_moves_on_one_ride(self):
        told = taken(2, [[1], [0], [1], [0], [1], [0], [1], [0]])
        self.assertEqual(last(*told, more(0, 8)), (7, [[0, 1, 0, 1, 0, 1, 0, 1]]))
        self.assertEqual(last(*told, more(1, 4)), (2, [[1, 0, 1]]))
        told = taken(3, [[2], [2], [0], [0, 1], [1], [1, 2]])
        self.assertEqual(last(*told, more(0, 6)), (2, [[1, 1, 1, 2, 2, 0]]))

    def test_a_seat_is_kept_while_it_is_free(self):
        told = taken(3, [[0], [], [2], [1, 2]])
        self.assertEqual(last(*told, more(0, 4)), (1, [[1, 1, 1, 0]]))

    def test_seats_are_free_by_the_earliest_of_the_cheapest_plans(self):
        told = [begins(2, 2, 1, 1, 1), rider(0, 2)]
        self.assertEqual(heard(*told, best(), more(0, 2))[-2:], [(0, [[2], [0, 0]]), (0, [[1, 1]])])
        told = [begins(2, 3, 1, 5, 100), pair(0, 1), rider(0, 1, 1), rider(0, 1, 1), rider(0, 2, 0, 1)]
        self.assertEqual(last(*told, more(1, 2)), (0, [[1]]))
        told = [begins(2, 3, 5, 1, 100), pair(0, 1), rider(0, 1, 1), rider(0, 1, 1), rider(0, 2, 0, 1)]
        self.assertEqual(last(*told, more(1, 2)), (0, [[0]]))

    def test_nobody_else_moves_for_one_more(self):
        told = [begins(2, 2, 1, 5, 0), rider(0, 1, 0, 1), rider(1, 2, 0, 2)]
        self.assertEqual(last(*told, more(0, 2)), (1, [[1, 0]]))

    def test_one_more_is_not_kept(self):
        told = taken(2, [[1], [0]])
        asking = [full(), best()]
        once = heard(*told, *asking)[-2:]
        self.assertEqual(heard(*told, more(0, 2), more(0, 2), more(2, 2), *asking)[-5:],
                         [(1, [[0, 1]]), (1, [[0, 1]]), (-1, []), *once])

    def test_a_drop_frees_a_seat(self):
        told = [begins(1, 1), rider(0, 1)]
        self.assertEqual(heard(*told, more(0, 1), drop(0), more(0, 1))[-3:], [(-7, []), (0, []), (0, [[0]])])


class AgainstAllPlans(unittest.TestCase):
    def free_of(self, train):
        plan = train.best()[2]
        return [[seat for seat in range(train.seats) if seat not in row] for row in plan]

    def test_some_trains(self):
        source = random.Random(5)
        for _ in range(60):
            seats = source.randrange(2, 4)
            riders = []
            for leg in range(6):
                if source.randrange(3):
                    to = source.randrange(leg + 1, min(leg + 3, 6) + 1)
                    riders.append((leg, to, source.randrange(2), source.randrange(seats + 1)))
            train = Plain([source.randrange(4) for _ in range(3)], 6, seats, [(0, 1)], riders)
            if max(len(train.aboard(leg)) for leg in range(6)) > seats or train.how_many_plans() > 2000:
                continue
            free = self.free_of(train)
            rides = [(start, to) for start in range(6) for to in range(start + 1, 7)]
            for (start, to), found in zip(rides, heard(*train.calls(), *[more(*ride) for ride in rides])[-len(rides):]):
                if all(free[start:to]):
                    seats_told = sits(free, start, to)
                    self.assertEqual(found, (moves_of(seats_told), [seats_told]), vars(train))
                    fewest = min(moves_of(way) for way in product(*free[start:to]))
                    self.assertEqual(found[0], fewest, vars(train))
                else:
                    self.assertEqual(found, (-7, []), vars(train))


class InAShortTime(unittest.TestCase):
    def test_forty_calls(self):
        began = time.monotonic()
        told = [begins(8, 5, 3, 2, 1), pair(0, 4), *[rider(0, 8, 1, 3)] * 4]
        calls = [*told, *[more(0, 8)] * (40 - len(told))]
        self.assertEqual(len(calls), 40)
        # Seats 0 and 4 are beside one another and seat 2 is wished for: of the others the lower one is taken.
        self.assertEqual(heard(*calls)[len(told):], [(0, [[3] * 8])] * (40 - len(told)))
        # Far above what is needed, far below what telling all plans one by one would take.
        self.assertLess(time.monotonic() - began, 30)


if __name__ == "__main__":
    unittest.main()
