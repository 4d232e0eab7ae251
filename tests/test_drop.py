import unittest

from told import HIGHEST, asked, begins, drop, pair, rider
from trainseatsyard.state import Train


def with_groups(groups):
    train = Train()
    train.begins(8, 5, 0, 0, 0)
    for group in groups:
        train.rider(0, 1, group, 0)
    return train


def groups_of(train):
    return [kept.group for kept in train.riders]


class Drop(unittest.TestCase):
    def test_those_behind_move_up(self):
        for i, left in ((0, [2, 3, 4]), (1, [1, 3, 4]), (2, [1, 2, 4]), (3, [1, 2, 3])):
            train = with_groups([1, 2, 3, 4])
            self.assertEqual(train.drop(i), 0)
            self.assertEqual(groups_of(train), left, i)

    def test_first_middle_and_last(self):
        for i in (0, 1, 2):
            self.assertEqual(
                asked(begins(), rider(), rider(), rider(), drop(i), drop(2), drop(1), drop(1), drop(0), drop(0)),
                [0, 0, 1, 2, 0, -2, 0, -2, 0, -2], i)

    def test_one_that_is_not_there(self):
        self.assertEqual(asked(begins(), drop(0)), [0, -2])
        for i in (2, 3, 20, HIGHEST):
            self.assertEqual(asked(begins(), rider(), rider(), drop(i)), [0, 0, 1, -2], i)

    def test_a_rider_told_afterwards_is_the_last(self):
        for i in (0, 1, 2):
            self.assertEqual(
                asked(begins(), rider(), rider(), rider(), drop(i), rider(), rider()), [0, 0, 1, 2, 0, 2, 3], i)
        train = with_groups([1, 2, 3])
        train.drop(0)
        self.assertEqual(train.rider(0, 1, 4, 0), 2)
        self.assertEqual(groups_of(train), [2, 3, 4])

    def test_all_from_the_front_and_from_the_back(self):
        self.assertEqual(
            asked(begins(), *[rider()] * 18, *[drop(0)] * 19), [0, *range(18), *[0] * 18, -2])
        self.assertEqual(
            asked(begins(), *[rider()] * 19, *[drop(i) for i in range(18, -1, -1)], drop(0)),
            [0, *range(19), *[0] * 19, -2])

    def test_the_same_number_twice_drops_two(self):
        train = with_groups([1, 2, 3, 4])
        self.assertEqual((train.drop(1), train.drop(1)), (0, 0))
        self.assertEqual(groups_of(train), [1, 4])

    def test_a_refused_one_leaves_all_as_it_was(self):
        train = with_groups([1, 2, 3])
        for i in (3, 4, HIGHEST):
            self.assertEqual(train.drop(i), -2)
        self.assertEqual(groups_of(train), [1, 2, 3])

    def test_pairs_legs_and_seats_stay(self):
        self.assertEqual(
            asked(begins(4, 3), pair(0, 1), rider(), drop(0), pair(1, 0), pair(1, 2), pair(2, 3), rider(3, 4),
                  rider(4, 5)),
            [0, 0, 0, 0, -3, 0, -2, 0, -1])


if __name__ == "__main__":
    unittest.main()
