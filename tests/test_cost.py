import random
import unittest

from told import HIGHEST, Plain, begins, best, cost, drop, full, heard, last, more, pair, rider

NO_PLAN = (-3, [])

# On leg 0 riders 0 and 1, on leg 1 all three, on leg 2 riders 1 and 2.
THREE = [begins(3, 4, 100, 10, 1), pair(0, 1), rider(0, 2, 1, 1), rider(0, 3, 1), rider(1, 3, 1, 4)]


class Cost(unittest.TestCase):
    def test_the_cheapest_plan(self):
        self.assertEqual(last(*THREE, cost([[0, 1], [0, 1, 3], [1, 3]])), (0 + 2 + 1, [[0]]))
        self.assertEqual(last(*THREE, best())[0], 3)

    def test_dearer_plans(self):
        for rows, price, moves in (
                ([[0, 2], [0, 2, 3], [2, 3]], 1 + 3 + 1, 0),
                ([[1, 0], [1, 0, 3], [0, 3]], 20 + 2 + 1, 0),
                ([[0, 1], [1, 0, 3], [0, 3]], 200 + 10 + 2 + 1, 2),
                ([[0, 1], [0, 1, 2], [1, 0]], 100 + 20 + 2 + 0, 1),
                ([[3, 2], [2, 3, 0], [2, 1]], 400 + 10 + 20 + 10 + 1 + 3 + 1, 4)):
            self.assertEqual(last(*THREE, cost(rows)), (price, [[moves]]), rows)

    def test_how_many_moves_where_a_move_costs_nothing(self):
        told = [begins(4, 2, 0, 0, 0), rider(0, 4), rider(1, 3)]
        self.assertEqual(last(*told, cost([[0], [0, 1], [0, 1], [0]])), (0, [[0]]))
        self.assertEqual(last(*told, cost([[1], [0, 1], [0, 1], [0]])), (0, [[1]]))
        self.assertEqual(last(*told, cost([[1], [0, 1], [1, 0], [0]])), (0, [[4]]))

    def test_getting_on_or_off_is_no_move(self):
        told = [begins(3, 2, 5, 0, 0), rider(0, 1), rider(1, 2), rider(2, 3)]
        self.assertEqual(last(*told, cost([[0], [1], [0]])), (0, [[0]]))

    def test_seats_are_told_by_the_riders_numbers(self):
        told = [begins(1, 3, 0, 5, 0), rider(0, 1, 0, 3), rider(0, 1, 0, 1)]
        self.assertEqual(last(*told, cost([[2, 0]])), (0, [[0]]))
        self.assertEqual(last(*told, cost([[0, 2]])), (10, [[0]]))
        self.assertEqual(last(*told, drop(0), cost([[0]])), (0, [[0]]))

    def test_without_riders(self):
        for legs in range(1, 9):
            self.assertEqual(last(begins(legs), cost([[]] * legs)), (0, [[0]]))

    def test_a_leg_on_which_nobody_rides(self):
        told = [begins(3, 2, 5, 3, 1), rider(0, 1, 1, 1), rider(2, 3, 1, 1)]
        self.assertEqual(last(*told, cost([[0], [], [1]])), (3, [[0]]))
        self.assertEqual(last(*told, cost([[0], [1], [1]])), NO_PLAN)

    def test_too_few_and_too_many_legs(self):
        for rows in ([], [[0, 1]], [[0, 1], [0, 1, 3]], [[0, 1], [0, 1, 3], [1, 3], []],
                     [[0, 1], [0, 1, 3], [1, 3], [0]], [[], [0, 1], [0, 1, 3], [1, 3]], [[]] * 20):
            self.assertEqual(last(*THREE, cost(rows)), NO_PLAN, rows)

    def test_too_few_and_too_many_seats_on_a_leg(self):
        for rows in ([[0], [0, 1, 3], [1, 3]], [[0, 1], [0, 1], [1, 3]], [[0, 1], [0, 1, 3], []],
                     [[0, 1, 2], [0, 1, 3], [1, 3]], [[0, 1], [0, 1, 3, 2], [1, 3]], [[0, 1], [0, 1, 3], [1, 3, 0]],
                     [[0, 1, 3], [0, 1], [1, 3]], [list(range(20))] * 3):
            self.assertEqual(last(*THREE, cost(rows)), NO_PLAN, rows)

    def test_a_seat_that_there_is_not(self):
        for seat in (4, 5, 20, HIGHEST):
            for rows in ([[0, seat], [0, 1, 3], [1, 3]], [[0, 1], [seat, 1, 3], [1, 3]],
                         [[0, 1], [0, 1, 3], [1, seat]]):
                self.assertEqual(last(*THREE, cost(rows)), NO_PLAN, rows)

    def test_a_seat_taken_twice_on_one_leg(self):
        for rows in ([[0, 0], [0, 1, 3], [1, 3]], [[0, 1], [3, 1, 3], [1, 3]], [[0, 1], [0, 1, 3], [3, 3]]):
            self.assertEqual(last(*THREE, cost(rows)), NO_PLAN, rows)

    def test_an_empty_list_of_legs(self):
        self.assertEqual(last(cost([])), (0, [[0]]))
        self.assertEqual(last(begins(legs=0), cost([])), (0, [[0]]))
        self.assertEqual(last(begins(legs=1), cost([])), NO_PLAN)

    def test_before_any_begins(self):
        for rows in ([[]], [[0]], [[], []], [[]] * 20, [list(range(20))] * 20):
            self.assertEqual(last(cost(rows)), NO_PLAN, rows)

    def test_more_ride_on_a_leg_than_there_are_seats(self):
        told = [begins(2, 2), rider(0, 2), rider(0, 1), rider(0, 1)]
        for rows in ([[0, 1], [0]], [[0, 1, 1], [0]], [[0, 1, 2], [0]], [[], [0]]):
            self.assertEqual(last(*told, cost(rows)), NO_PLAN, rows)

    def test_a_leg_just_full(self):
        told = [begins(1, 5, 0, 1, 0), *[rider(0, 1, 0, wished) for wished in range(1, 6)]]
        self.assertEqual(last(*told, cost([[0, 1, 2, 3, 4]])), (0, [[0]]))
        self.assertEqual(last(*told, cost([[1, 2, 3, 4, 0]])), (5, [[0]]))

    def test_the_longest_list(self):
        longest = cost([list(range(20))] * 20)
        self.assertEqual(longest[:2], [6, 421])
        self.assertEqual(heard(*THREE, longest, full())[-2:], [NO_PLAN, (3, [[2, 3, 2]])])
        self.assertEqual(last(*THREE, cost([[HIGHEST] * 20] * 20)), NO_PLAN)

    def test_the_call_behind_is_found(self):
        told = [*THREE, cost([[0, 1], [0, 1, 3], [1, 3]]), cost([[], [], []]), cost([]), full(), cost([[0]] * 3),
                more(0, 1)]
        self.assertEqual(heard(*told)[len(THREE):],
                         [(3, [[0]]), NO_PLAN, NO_PLAN, (3, [[2, 3, 2]]), NO_PLAN, (0, [[2]])])

    def test_it_changes_nothing(self):
        asking = [full(), best(), more(0, 3)]
        once = heard(*THREE, *asking)[-3:]
        for rows in ([[0, 2], [0, 2, 3], [2, 3]], [[3, 3], [], []], []):
            self.assertEqual(heard(*THREE, cost(rows), *asking)[-3:], once, rows)

    def test_every_plan_of_some_trains(self):
        source = random.Random(4)
        for _ in range(12):
            costs = [source.randrange(10) for _ in range(3)]
            riders = [(0, 3, 1, 1), (1, 2, 1, source.randrange(4)), (1, 3, source.randrange(2), 3)]
            train = Plain(costs, 3, 3, [(0, 1), (2, 1)], riders)
            plans = list(train.plans())
            for at in range(0, len(plans), 30):
                some = plans[at:at + 30]
                found = heard(*train.calls(), *[cost(plan) for plan in some])[-len(some):]
                self.assertEqual(found, [(train.price(plan), [[train.moves(plan)]]) for plan in some])

    def test_the_earliest_cheapest_plan_costs_what_best_says(self):
        told = [begins(8, 5, 3, 2, 1), pair(0, 4), *[rider(0, 8, 1, 3)] * 4,
                *[rider(leg, leg + 1, 1, 1) for leg in range(0, 8)]]
        price, lists = last(*told, best())
        rows = [[way[leg] for way in lists[1:5]] + lists[5 + leg] for leg in range(8)]
        self.assertEqual(last(*told, cost(rows)), (price, [[0]]))


if __name__ == "__main__":
    unittest.main()
