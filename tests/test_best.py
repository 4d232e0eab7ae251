import random
import time
import unittest
from itertools import combinations

from told import Plain, begins, best, drop, heard, last, pair, rider


def crowded(move, wish, apart):
    """Rider 2 wishes for seat 0, where on leg 0 the two of a group sit if they are to be beside one another."""
    return [begins(2, 3, move, wish, apart), pair(0, 1), rider(0, 1, 1), rider(0, 1, 1), rider(0, 2, 0, 1)]


def some_train(source, legs, seats, most_riders, most_cost):
    """A train picked by chance, with no leg fuller than its seats."""
    pairs = [two for two in combinations(range(seats), 2) if source.randrange(2)]
    costs = [source.randrange(most_cost + 1) for _ in range(3)]
    riders = []
    room = [seats] * legs
    for _ in range(most_riders):
        start = source.randrange(legs)
        to = source.randrange(start + 1, legs + 1)
        if min(room[start:to]) > 0:
            room[start:to] = [free - 1 for free in room[start:to]]
            riders.append((start, to, source.choice((0, 1, 1, 2)), source.randrange(seats + 1)))
    return Plain(costs, legs, seats, pairs, riders)


class Best(unittest.TestCase):
    def test_before_any_begins(self):
        self.assertEqual(last(best()), (0, [[1]]))
        self.assertEqual(last(begins(legs=9), best()), (0, [[1]]))

    def test_without_riders(self):
        for legs in range(1, 9):
            for seats in range(1, 6):
                self.assertEqual(last(begins(legs, seats), best()), (0, [[1]]))

    def test_one_rider_without_a_wish(self):
        self.assertEqual(last(begins(3, 4), rider(0, 3), best()), (0, [[4], [0, 0, 0]]))
        self.assertEqual(last(begins(3, 4), rider(1, 2), best()), (0, [[4], [0]]))

    def test_one_rider_with_a_wish(self):
        for seat in range(4):
            self.assertEqual(last(begins(3, 4), rider(0, 2, 0, seat + 1), best()), (0, [[1], [seat, seat]]))

    def test_one_wish_for_two(self):
        self.assertEqual(
            last(begins(1, 3, 0, 7, 0), rider(0, 1, 0, 2), rider(0, 1, 0, 2), best()), (7, [[4], [0], [1]]))

    def test_a_wish_costs_on_each_leg(self):
        self.assertEqual(
            last(begins(3, 2, 9, 7, 0), rider(0, 3, 0, 2), rider(0, 3, 0, 2), best()),
            (21, [[2], [0, 0, 0], [1, 1, 1]]))

    def test_a_move_cheaper_than_a_wish_not_kept(self):
        self.assertEqual(last(*crowded(1, 5, 100), best()), (6, [[2], [0], [1], [2, 0]]))

    def test_a_wish_not_kept_cheaper_than_a_move(self):
        self.assertEqual(last(*crowded(5, 1, 100), best()), (2, [[2], [0], [1], [2, 2]]))

    def test_a_move_as_dear_as_a_wish_not_kept(self):
        self.assertEqual(last(*crowded(3, 3, 100), best()), (6, [[4], [0], [1], [2, 0]]))

    def test_sitting_apart_cheaper_than_both(self):
        self.assertEqual(last(*crowded(50, 60, 7), best()), (7, [[2], [1], [2], [0, 0]]))

    def test_two_of_one_group(self):
        two = [rider(0, 1, 4), rider(0, 1, 4)]
        self.assertEqual(last(begins(1, 3, 0, 0, 4), *two, best()), (4, [[6], [0], [1]]))
        self.assertEqual(last(begins(1, 3, 0, 0, 4), pair(2, 1), *two, best()), (0, [[2], [1], [2]]))
        self.assertEqual(last(begins(1, 3, 0, 0, 4), pair(0, 2), *two, best()), (0, [[2], [0], [2]]))

    def test_three_of_one_group(self):
        three = [rider(0, 1, 9)] * 3
        for pairs, price in (([], 12), ([(0, 1)], 8), ([(0, 1), (2, 1)], 4), ([(0, 1), (2, 1), (0, 2)], 0)):
            told = [begins(1, 3, 0, 0, 4), *[pair(a, b) for a, b in pairs], *three]
            self.assertEqual(last(*told, best()), (price, [[6], [0], [1], [2]]))

    def test_three_of_one_group_where_a_seat_stays_free(self):
        told = [begins(1, 4, 0, 0, 4), pair(1, 2), pair(2, 3), pair(1, 3), *[rider(0, 1, 1)] * 3]
        self.assertEqual(last(*told, best()), (0, [[6], [1], [2], [3]]))

    def test_apart_costs_on_each_leg_on_which_both_ride(self):
        self.assertEqual(
            last(begins(5, 2, 0, 0, 3), rider(0, 4, 1), rider(1, 5, 1), best())[0], 9)
        self.assertEqual(
            last(begins(5, 2, 0, 0, 3), rider(0, 2, 1), rider(2, 5, 1), best())[0], 0)

    def test_two_groups(self):
        told = [begins(1, 4, 0, 0, 5), pair(0, 2), pair(1, 3)]
        riders = [rider(0, 1, 1), rider(0, 1, 2), rider(0, 1, 1), rider(0, 1, 2)]
        self.assertEqual(last(*told, *riders, best()), (0, [[8], [0], [1], [2], [3]]))
        riders = [rider(0, 1, 1), rider(0, 1, 1), rider(0, 1, 2), rider(0, 1, 2)]
        self.assertEqual(last(*told, *riders, best()), (0, [[8], [0], [2], [1], [3]]))
        self.assertEqual(last(*told, *[rider(0, 1, 3)] * 4, best()), (20, [[24], [0], [1], [2], [3]]))

    def test_group_0_is_no_group(self):
        self.assertEqual(
            last(begins(1, 3, 0, 0, 4), rider(), rider(), rider(), best()), (0, [[6], [0], [1], [2]]))
        self.assertEqual(
            last(begins(1, 3, 0, 0, 4), rider(0, 1, 1), rider(), rider(0, 1, 1), best()), (4, [[6], [0], [1], [2]]))

    def test_costs_of_0_make_all_plans_alike(self):
        self.assertEqual(
            last(begins(3, 3, 0, 0, 0), rider(0, 2, 1, 3), rider(1, 3, 1, 3), best()),
            (0, [[3 * 6 * 3], [0, 0], [1, 0]]))
        self.assertEqual(
            last(begins(8, 5, 0, 0, 0), *[rider(0, 8, 1, 2)] * 5, best()),
            (0, [[120 ** 8], *[[seat] * 8 for seat in range(5)]]))

    def test_how_many_plans_cost_so_little(self):
        for riders, ways in ((1, 5), (2, 20), (3, 60), (4, 120), (5, 120)):
            self.assertEqual(last(begins(), *[rider(0, 8)] * riders, best())[1][0], [ways])
            self.assertEqual(last(begins(), *[rider(0, 1)] * riders, *[rider(1, 2)] * riders, best())[1][0],
                             [ways * ways])

    def test_the_first_leg_goes_ahead_of_the_first_rider(self):
        told = [begins(2, 2, 0, 10, 0), rider(1, 2), rider(0, 2, 0, 1)]
        self.assertEqual(last(*told, best()), (0, [[1], [1], [0, 0]]))
        told = [begins(2, 2, 10, 0, 0), rider(1, 2), rider(0, 2)]
        self.assertEqual(last(*told, best()), (0, [[2], [1], [0, 0]]))

    def test_on_one_leg_the_first_rider_has_the_lower_seat(self):
        self.assertEqual(
            last(begins(1, 3, 1, 1, 1), rider(0, 1), rider(0, 1, 0, 3), rider(0, 1), best()),
            (0, [[2], [0], [2], [1]]))
        self.assertEqual(last(begins(1, 2, 1, 0, 1), rider(0, 1, 0, 2), rider(0, 1, 0, 1), best()),
                         (0, [[2], [0], [1]]))

    def test_a_lower_seat_on_a_later_leg_at_no_cost(self):
        told = [begins(2, 2, 0, 1, 0), rider(0, 1, 0, 1), rider(0, 2)]
        self.assertEqual(last(*told, best()), (0, [[2], [0], [1, 0]]))

    def test_a_leg_on_which_nobody_rides(self):
        self.assertEqual(
            last(begins(3, 2, 9, 1, 1), rider(0, 1, 0, 1), rider(2, 3, 0, 2), best()), (0, [[1], [0], [1]]))
        self.assertEqual(last(begins(4, 3), rider(0, 1), rider(2, 3), best()), (0, [[9], [0], [0]]))

    def test_one_who_gets_off_and_one_who_gets_on_there_do_not_move(self):
        self.assertEqual(
            last(begins(2, 2, 9, 1, 1), rider(0, 1, 1, 1), rider(1, 2, 1, 2), best()), (0, [[1], [0], [1]]))

    def test_more_riders_than_seats(self):
        for seats in range(1, 6):
            told = [begins(4, seats), *[rider(1, 3)] * seats]
            self.assertEqual(last(*told, rider(3, 4), rider(0, 1), best())[0], 0, seats)
            for leg in (1, 2):
                self.assertEqual(last(*told, rider(leg, leg + 1), best()), (-6, []), (seats, leg))

    def test_more_riders_than_seats_on_the_first_and_the_last_leg(self):
        self.assertEqual(last(begins(8, 1), rider(0, 1), rider(0, 1), best()), (-6, []))
        self.assertEqual(last(begins(8, 1), rider(7, 8), rider(7, 8), best()), (-6, []))
        self.assertEqual(last(begins(1, 5), *[rider(0, 1)] * 20, best()), (-6, []))

    def test_more_riders_than_seats_all_together_on_different_legs(self):
        self.assertEqual(
            last(begins(8, 1), *[rider(leg, leg + 1) for leg in range(8)], best()), (0, [[1], *[[0]] * 8]))

    def test_a_drop_makes_room(self):
        self.assertEqual(
            heard(begins(1, 1), rider(0, 1), rider(0, 1), best(), drop(0), best())[3:],
            [(-6, []), (0, []), (0, [[1], [0]])])

    def test_a_drop_leaves_the_others_wishes_and_groups(self):
        told = [begins(2, 3, 1, 1, 1), pair(1, 2), rider(0, 2, 1, 1), rider(0, 1, 2, 2), rider(0, 2, 2, 3)]
        self.assertEqual(last(*told, best()), (0, [[1], [0, 0], [1], [2, 2]]))
        self.assertEqual(last(*told, drop(0), best()), (0, [[1], [1], [2, 2]]))
        self.assertEqual(last(*told, drop(1), best()), (0, [[1], [0, 0], [2, 2]]))

    def test_the_highest_costs(self):
        self.assertEqual(
            last(begins(8, 5, 10000, 10000, 10000), *[rider(0, 8, 1, 1)] * 5, best()),
            (8 * 10000 * (4 + 10), [[120], *[[seat] * 8 for seat in range(5)]]))

    def test_it_changes_nothing(self):
        told = crowded(1, 5, 100)
        self.assertEqual(len(set(map(str, heard(*told, *[best()] * 5)[-5:]))), 1)


class AgainstAllPlans(unittest.TestCase):
    def held(self, train):
        price, lists, _ = train.best()
        self.assertEqual(last(*train.calls(), best()), (price, lists), vars(train))

    def test_small_trains(self):
        source = random.Random(1)
        tried = 0
        while tried < 700:
            train = some_train(source, source.randrange(1, 5), source.randrange(1, 5), 7, source.choice((1, 2, 3, 9)))
            if train.how_many_plans() <= 600:
                self.held(train)
                tried += 1

    def test_trains_with_five_seats(self):
        source = random.Random(2)
        tried = 0
        while tried < 12:
            train = some_train(source, source.randrange(1, 3), 5, 9, 4)
            if train.how_many_plans() in range(1000, 8000):
                self.held(train)
                tried += 1

    def test_long_trains(self):
        source = random.Random(3)
        tried = 0
        while tried < 40:
            train = some_train(source, source.randrange(6, 9), source.randrange(2, 4), 6, 4)
            if train.how_many_plans() in range(100, 3000):
                self.held(train)
                tried += 1


class InAShortTime(unittest.TestCase):
    # Far above what is needed, far below what telling all plans one by one would take.
    LIMIT = 30

    def setUp(self):
        self.began = time.monotonic()

    def tearDown(self):
        self.assertLess(time.monotonic() - self.began, self.LIMIT)

    def test_five_riders_all_the_way(self):
        told = [begins(8, 5, 3, 2, 1), pair(0, 1), pair(1, 2), *[rider(0, 8, 1, 1)] * 5]
        self.assertEqual(last(*told, best())[0], 8 * 8 + 8 * 8)

    def test_twenty_riders(self):
        riders = [rider(k * 2, k * 2 + 2, k % 2 + 1, i + 1) for k in range(4) for i in range(5)]
        price, lists = last(begins(8, 5, 3, 2, 1), *riders, best())
        self.assertEqual(price, 80)
        self.assertEqual(lists, [[1], *[[i, i] for k in range(4) for i in range(5)]])

    def test_forty_calls(self):
        told = [begins(8, 5, 3, 2, 1), pair(0, 4), *[rider(0, 8, 1, 3)] * 4,
                *[rider(leg, leg + 1, 1, 1) for leg in range(0, 8)]]
        calls = [*told, *[best()] * (40 - len(told))]
        self.assertEqual(len(calls), 40)
        found = heard(*calls)[len(told):]
        self.assertEqual([answer[0] for answer in found], [3 * 8 * 2 + 9 * 8] * (40 - len(told)))


if __name__ == "__main__":
    unittest.main()
