import unittest

from told import begins, best, cost, drop, full, last, more, pair, rider


class Full(unittest.TestCase):
    def test_before_any_begins(self):
        self.assertEqual(last(full()), (0, [[]]))
        self.assertEqual(last(begins(legs=9), full()), (0, [[]]))

    def test_without_riders(self):
        for legs in range(1, 9):
            self.assertEqual(last(begins(legs), full()), (legs, [[0] * legs]))

    def test_riders_that_get_on_and_off_at_different_stops(self):
        self.assertEqual(
            last(begins(6), rider(0, 2), rider(1, 5), rider(2, 4), rider(4, 5), rider(1, 2), full()),
            (6, [[1, 3, 2, 2, 2, 0]]))

    def test_each_ride(self):
        for start in range(8):
            for to in range(start + 1, 9):
                counts = [0] * start + [1] * (to - start) + [0] * (8 - to)
                self.assertEqual(last(begins(), rider(start, to), full()), (8, [counts]))

    def test_more_riders_on_a_leg_than_seats(self):
        self.assertEqual(
            last(begins(3, 1), *[rider(1, 2)] * 19, rider(0, 3), full()), (3, [[1, 20, 1]]))

    def test_after_a_drop_and_after_a_refused_rider(self):
        self.assertEqual(
            last(begins(3), rider(0, 3), rider(1, 2), rider(2, 3), drop(1), rider(1, 4), full()),
            (3, [[1, 1, 2]]))

    def test_after_a_second_begins(self):
        self.assertEqual(last(begins(3), rider(0, 3), begins(2), full()), (2, [[0, 0]]))

    def test_nothing_else_matters(self):
        told = [begins(3, 2), rider(0, 2, 1, 1), rider(1, 3, 1, 1)]
        for between in (pair(0, 1), best(), cost([[0], [0, 1], [0]]), more(0, 1), full()):
            self.assertEqual(last(*told, between, full()), (3, [[1, 2, 1]]), between)


if __name__ == "__main__":
    unittest.main()
