import unittest

from told import HIGHEST, asked, begins, drop, laid, pair, rider
from trainseatsyard.state import Train
from trainseatsyard.train import answer_of, answers


def not_to_be_called(*told, **named):
    raise AssertionError("what is handed in was to be changed")


class Sealed(list):
    """A list that fails at the first change, even one that is taken back."""

    append = clear = extend = insert = pop = remove = reverse = sort = not_to_be_called
    __setitem__ = __delitem__ = __iadd__ = __imul__ = not_to_be_called


SOME = laid([begins(4, 3, 5, 6, 7), pair(0, 1), pair(1, 0), rider(0, 2, 1, 3), rider(1, 4), rider(2, 2), drop(0),
             drop(1), begins(9), rider(0, 4)])
SOME_ANSWERED = [1, 0, 1, 0, 1, -3, 1, 0, 1, 1, 1, -1, 1, 0, 1, -2, 1, -1, 1, 1]


class Answers(unittest.TestCase):
    def test_each_answer_behind_how_many_numbers_it_has(self):
        self.assertEqual(answers(SOME), SOME_ANSWERED)

    def test_a_plain_list_of_whole_numbers_is_given_back(self):
        given = answers(SOME)
        self.assertIs(type(given), list)
        self.assertEqual({type(number) for number in given}, {int})

    def test_one_call(self):
        self.assertEqual(answers([0, 8, 5, 1, 1, 1]), [1, 0])
        self.assertEqual(answers([0, 0, 5, 1, 1, 1]), [1, -1])
        self.assertEqual(answers([1, 0, 1]), [1, -2])
        self.assertEqual(answers([2, 0, 1, 0, 0]), [1, -1])
        self.assertEqual(answers([3, 0]), [1, -2])

    def test_forty_calls(self):
        calls = [begins(), *[rider()] * 21, *[drop(0)] * 8, pair(0, 1), pair(1, 0), *[rider()] * 8]
        self.assertEqual(len(calls), 40)
        self.assertEqual(asked(*calls), [0, *range(20), -5, *[0] * 8, 0, -3, *range(12, 20)])
        self.assertEqual(asked(*[begins()] * 40), [0] * 40)
        self.assertEqual(asked(*[drop(0)] * 40), [-2] * 40)

    def test_each_call_before_the_first_begins(self):
        for a, b in ((0, 0), (0, 1), (1, 0), (HIGHEST, HIGHEST)):
            self.assertEqual(asked(pair(a, b)), [-2], (a, b))
        for told in ((0, 0, 0, 0), (0, 1, 0, 0), (0, 1, 0, 1), (1, 0, 10, 9), (0, HIGHEST, 0, 0)):
            self.assertEqual(asked(rider(*told)), [-1], told)
        for i in (0, 1, HIGHEST):
            self.assertEqual(asked(drop(i)), [-2], i)

    def test_all_calls_before_the_first_begins_leave_nothing(self):
        self.assertEqual(
            asked(rider(), pair(0, 1), drop(0), begins(), drop(0), pair(0, 1), rider()),
            [-1, -2, -2, 0, -2, 0, 0])

    def test_highest_numbers_in_each_place(self):
        ordinary = (([0, 8, 5, 1, 1, 1], [-1] * 5), ([1, 0, 1], [-2, -2]), ([2, 0, 1, 0, 0], [-1, -1, -1, -2]),
                    ([3, 0], [-2]))
        for call, refusals in ordinary:
            for place, refusal in enumerate(refusals, start=1):
                told = list(call)
                told[place] = HIGHEST
                self.assertEqual(asked(begins(), rider(), told), [0, 0, refusal], told)

    def test_numbers_told_are_not_taken_for_calls(self):
        self.assertEqual(asked(begins(3, 3, 3, 3, 3), rider(2, 3, 3, 3), drop(0), pair(1, 2)), [0, 0, 0, 0])
        self.assertEqual(asked(begins(1, 2, 0, 1, 2), pair(0, 1), rider(0, 1, 2, 2), drop(0)), [0, 0, 0, 0])

    def test_numbers_told_reach_the_train_in_their_order(self):
        train = Train()
        self.assertEqual(answer_of(train, 0, [3, 4, 5, 6, 7]), [0])
        self.assertEqual((train.legs, train.seats, train.move, train.wish, train.apart), (3, 4, 5, 6, 7))
        self.assertEqual(answer_of(train, 2, [1, 2, 3, 4]), [0])
        kept = train.riders[0]
        self.assertEqual((kept.start, kept.to, kept.group, kept.wished), (1, 2, 3, 4))

    def test_what_is_handed_in_is_the_same_afterwards(self):
        handed = list(SOME)
        answers(handed)
        self.assertEqual(handed, SOME)

    def test_what_is_handed_in_is_not_changed_for_a_while_either(self):
        self.assertEqual(answers(Sealed(SOME)), SOME_ANSWERED)

    def test_two_runs_one_behind_the_other_answer_alike(self):
        first = answers(SOME)
        second = answers(SOME)
        self.assertEqual(first, second)
        self.assertIsNot(first, second)

    def test_nothing_is_kept_from_one_time_to_the_next(self):
        answers(laid([begins(), pair(0, 1), rider()]))
        self.assertEqual(asked(pair(0, 1), rider(), drop(0)), [-2, -1, -2])
        answers(SOME).clear()
        self.assertEqual(answers(SOME), SOME_ANSWERED)


if __name__ == "__main__":
    unittest.main()
