import unittest

from told import HIGHEST, asked, begins, drop, pair, rider
from trainseatsyard.state import Train


class Begins(unittest.TestCase):
    def test_how_many_legs(self):
        for legs in range(1, 9):
            self.assertEqual(asked(begins(legs=legs)), [0], legs)
        for legs in (0, 9, 10, 256, HIGHEST):
            self.assertEqual(asked(begins(legs=legs)), [-1], legs)

    def test_how_many_seats(self):
        for seats in range(1, 6):
            self.assertEqual(asked(begins(seats=seats)), [0], seats)
        for seats in (0, 6, 7, 256, HIGHEST):
            self.assertEqual(asked(begins(seats=seats)), [-1], seats)

    def test_each_cost_up_to_10000(self):
        for cost in ("move", "wish", "apart"):
            for amount in (0, 1, 9999, 10000):
                self.assertEqual(asked(begins(**{cost: amount})), [0], (cost, amount))
            for amount in (10001, HIGHEST):
                self.assertEqual(asked(begins(**{cost: amount})), [-1], (cost, amount))

    def test_all_at_their_most_and_at_their_least(self):
        self.assertEqual(asked(begins(8, 5, 10000, 10000, 10000)), [0])
        self.assertEqual(asked(begins(1, 1, 0, 0, 0)), [0])
        self.assertEqual(asked(begins(HIGHEST, HIGHEST, HIGHEST, HIGHEST, HIGHEST)), [-1])

    def test_legs_and_seats_are_those_told(self):
        for legs in range(1, 9):
            self.assertEqual(
                asked(begins(legs=legs), rider(0, legs), rider(0, legs + 1)), [0, 0, -1], legs)
        for seats in range(1, 6):
            self.assertEqual(
                asked(begins(seats=seats), rider(wished=seats), rider(wished=seats + 1)), [0, 0, -2], seats)

    def test_costs_are_those_told(self):
        train = Train()
        train.begins(3, 4, 5, 6, 7)
        self.assertEqual((train.legs, train.seats, train.move, train.wish, train.apart), (3, 4, 5, 6, 7))

    def test_a_second_one_leaves_no_riders(self):
        self.assertEqual(
            asked(begins(), rider(), rider(), begins(), drop(0), rider()), [0, 0, 1, 0, -2, 0])

    def test_a_second_one_makes_room_for_twenty_riders_again(self):
        eighteen = [rider()] * 18
        self.assertEqual(
            asked(begins(), *eighteen, begins(), *eighteen, rider(), rider()),
            [0, *range(18), 0, *range(18), 18, 19])

    def test_a_second_one_leaves_no_seats_beside_one_another(self):
        self.assertEqual(
            asked(begins(), pair(0, 1), pair(0, 1), begins(), pair(0, 1), pair(1, 0)), [0, 0, -3, 0, 0, -3])
        self.assertEqual(asked(begins(), pair(0, 1), begins(), pair(1, 0)), [0, 0, 0, 0])

    def test_a_second_one_has_its_own_legs_and_seats(self):
        self.assertEqual(
            asked(begins(8, 5), begins(2, 3), rider(0, 3), rider(0, 2), pair(0, 3), pair(0, 2)),
            [0, 0, -1, 0, -2, 0])
        self.assertEqual(
            asked(begins(2, 3), begins(8, 5), rider(7, 8), pair(3, 4)), [0, 0, 0, 0])

    def test_a_refused_one_leaves_all_as_it_was(self):
        for refused in (begins(legs=0), begins(legs=9), begins(seats=0), begins(seats=6), begins(1, 1, 10001),
                        begins(1, 1, 0, 10001), begins(1, 1, 0, 0, 10001)):
            self.assertEqual(
                asked(begins(4, 3), pair(0, 1), rider(), rider(), refused, pair(1, 0), pair(1, 2), pair(2, 3),
                      rider(3, 4), rider(4, 5), rider(wished=4), drop(2), drop(2)),
                [0, 0, 0, 1, -1, -3, 0, -2, 2, -1, -2, 0, -2], refused)

    def test_a_refused_one_leaves_the_costs_as_they_were(self):
        train = Train()
        train.begins(3, 4, 5, 6, 7)
        for refused in ((0, 1, 1, 1, 1), (1, 6, 1, 1, 1), (1, 1, 10001, 1, 1), (1, 1, 1, 10001, 1),
                        (1, 1, 1, 1, 10001)):
            self.assertEqual(train.begins(*refused), -1)
            self.assertEqual((train.legs, train.seats, train.move, train.wish, train.apart), (3, 4, 5, 6, 7))

    def test_a_refused_first_one_leaves_no_legs_and_no_seats(self):
        self.assertEqual(
            asked(begins(legs=9), rider(0, 1), pair(0, 1), drop(0), begins(), rider(0, 1), pair(0, 1), drop(0)),
            [-1, -1, -2, -2, 0, 0, 0, 0])


if __name__ == "__main__":
    unittest.main()
