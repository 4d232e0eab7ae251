import unittest

from told import HIGHEST, asked, begins, drop, pair, rider
from trainseatsyard.state import Train


class TheRider(unittest.TestCase):
    def test_every_way_from_stop_to_stop(self):
        for legs in range(1, 9):
            for start in range(legs + 3):
                for to in range(legs + 3):
                    wanted = 0 if start < to <= legs else -1
                    self.assertEqual(asked(begins(legs=legs), rider(start, to)), [0, wanted], (legs, start, to))

    def test_to_is_not_behind_from(self):
        self.assertEqual(asked(begins(4), rider(2, 2), rider(3, 2), rider(0, 0), rider(2, 0)), [0, -1, -1, -1, -1])

    def test_to_at_and_behind_the_last_stop(self):
        self.assertEqual(asked(begins(4), rider(3, 4), rider(0, 4)), [0, 0, 1])
        self.assertEqual(asked(begins(4), rider(3, 5), rider(0, 5), rider(4, 5)), [0, -1, -1, -1])

    def test_highest_stops(self):
        self.assertEqual(
            asked(begins(), rider(0, HIGHEST), rider(HIGHEST, 1), rider(HIGHEST, HIGHEST),
                  rider(HIGHEST - 1, HIGHEST)),
            [0, -1, -1, -1, -1])

    def test_group(self):
        for group in range(10):
            self.assertEqual(asked(begins(), rider(group=group)), [0, 0], group)
        for group in (10, 11, HIGHEST):
            self.assertEqual(asked(begins(), rider(group=group)), [0, -1], group)

    def test_wished(self):
        for seats in range(1, 6):
            for wished in range(seats + 1):
                self.assertEqual(asked(begins(seats=seats), rider(wished=wished)), [0, 0], (seats, wished))
            for wished in (seats + 1, seats + 2, HIGHEST):
                self.assertEqual(asked(begins(seats=seats), rider(wished=wished)), [0, -2], (seats, wished))

    def test_numbers_in_order(self):
        self.assertEqual(asked(begins(), rider(), rider(2, 3), rider(0, 8, 9, 5)), [0, 0, 1, 2])

    def test_twenty_and_one_more(self):
        self.assertEqual(asked(begins(), *[rider()] * 22), [0, *range(20), -5, -5])

    def test_more_riders_than_seats_on_a_leg_may_be_told(self):
        self.assertEqual(asked(begins(seats=1), rider(), rider(), rider()), [0, 0, 1, 2])

    def test_room_again_after_a_drop(self):
        self.assertEqual(
            asked(begins(), *[rider()] * 20, rider(), drop(4), rider(), rider()),
            [0, *range(20), -5, 0, 19, -5])

    def test_of_several_refusals_the_one_told_first(self):
        self.assertEqual(asked(begins(seats=2), rider(1, 1, 0, 3)), [0, -1])
        self.assertEqual(asked(begins(seats=2), rider(0, 9, 0, 3)), [0, -1])
        self.assertEqual(asked(begins(seats=2), rider(0, 1, 10, 3)), [0, -1])
        self.assertEqual(asked(begins(), rider(HIGHEST, HIGHEST, HIGHEST, HIGHEST)), [0, -1])

    def test_of_several_refusals_with_twenty_riders(self):
        self.assertEqual(
            asked(begins(seats=2), *[rider()] * 20, rider(1, 1), rider(0, 9), rider(group=10), rider(wished=3),
                  rider(2, 1, 10, 3), rider(wished=2)),
            [0, *range(20), -1, -1, -1, -2, -1, -5])

    def test_a_refused_one_leaves_all_as_it_was(self):
        self.assertEqual(
            asked(begins(4, 2), pair(0, 1), rider(), rider(1, 1), rider(0, 5), rider(group=10), rider(wished=3),
                  rider(), pair(0, 1), drop(2), drop(1), drop(0), drop(0)),
            [0, 0, 0, -1, -1, -1, -2, 1, -3, -2, 0, 0, -2])

    def test_one_too_many_is_not_kept(self):
        self.assertEqual(
            asked(begins(), *[rider()] * 20, rider(), drop(20), drop(19), drop(19)),
            [0, *range(20), -5, -2, 0, -2])

    def test_what_is_told_of_a_rider_is_kept(self):
        train = Train()
        train.begins(8, 5, 0, 0, 0)
        train.rider(2, 7, 9, 5)
        kept = train.riders[0]
        self.assertEqual((kept.start, kept.to, kept.group, kept.wished), (2, 7, 9, 5))


if __name__ == "__main__":
    unittest.main()
