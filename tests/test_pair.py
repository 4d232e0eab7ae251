import unittest

from told import HIGHEST, asked, begins, pair, rider
from trainseatsyard.state import Train


class Pair(unittest.TestCase):
    def test_every_two_seats_once(self):
        for seats in range(1, 6):
            for a in range(seats + 2):
                for b in range(seats + 2):
                    wanted = -2 if max(a, b) >= seats else -3 if a == b else 0
                    self.assertEqual(asked(begins(seats=seats), pair(a, b)), [0, wanted], (seats, a, b))

    def test_no_such_seat(self):
        for number in (3, 4, 5, HIGHEST):
            self.assertEqual(asked(begins(seats=3), pair(number, 0)), [0, -2], number)
            self.assertEqual(asked(begins(seats=3), pair(0, number)), [0, -2], number)

    def test_a_seat_is_not_beside_itself(self):
        self.assertEqual(asked(begins(seats=3), pair(0, 0), pair(2, 2)), [0, -3, -3])

    def test_told_once_more(self):
        self.assertEqual(asked(begins(), pair(1, 3), pair(1, 3)), [0, 0, -3])
        self.assertEqual(asked(begins(), pair(3, 1), pair(3, 1)), [0, 0, -3])

    def test_told_once_more_the_other_way_round(self):
        self.assertEqual(asked(begins(), pair(1, 3), pair(3, 1)), [0, 0, -3])
        self.assertEqual(asked(begins(), pair(3, 1), pair(1, 3)), [0, 0, -3])

    def test_all_ten_pairs_of_five_seats(self):
        two = [(a, b) for a in range(5) for b in range(a + 1, 5)]
        self.assertEqual(
            asked(begins(), *[pair(a, b) for a, b in two], *[pair(b, a) for a, b in two]),
            [0] + [0] * 10 + [-3] * 10)

    def test_seats_in_a_row_are_not_all_beside_one_another(self):
        self.assertEqual(asked(begins(), pair(0, 1), pair(1, 2), pair(0, 2)), [0, 0, 0, 0])

    def test_no_such_seat_is_told_ahead_of_a_is_b(self):
        for number in (3, HIGHEST):
            self.assertEqual(asked(begins(seats=3), pair(number, number)), [0, -2], number)

    def test_a_refused_one_leaves_all_as_it_was(self):
        self.assertEqual(
            asked(begins(seats=3), pair(0, 1), pair(0, 1), pair(2, 2), pair(0, 3), pair(3, 3), pair(1, 0),
                  pair(0, 2), pair(2, 1), rider(), rider(wished=3), rider(wished=4)),
            [0, 0, -3, -3, -2, -2, -3, 0, 0, 0, 1, -2])

    def test_a_refused_one_is_not_kept(self):
        train = Train()
        train.begins(8, 3, 0, 0, 0)
        train.pair(0, 1)
        for a, b in ((0, 1), (1, 0), (2, 2), (0, 3), (3, 0), (3, 3)):
            train.pair(a, b)
        self.assertEqual(sorted(train.beside), [(0, 1), (1, 0)])

    def test_riders_do_not_matter(self):
        self.assertEqual(asked(begins(), rider(), pair(0, 1), rider(), pair(0, 1)), [0, 0, 0, 1, -3])


if __name__ == "__main__":
    unittest.main()
