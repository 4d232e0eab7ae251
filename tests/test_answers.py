import unittest

from told import HIGHEST, asked, begins, best, cost, drop, full, heard, laid, more, pair, rider
from trainseatsyard.state import Train
from trainseatsyard.train import answer_of, answers


def not_to_be_called(*told, **named):
    raise AssertionError("what is handed in was to be changed")


class Sealed(list):
    """A list that fails at the first change, even one that is taken back."""

    append = clear = extend = insert = pop = remove = reverse = sort = not_to_be_called
    __setitem__ = __delitem__ = __iadd__ = __imul__ = not_to_be_called


def asked_behind(told, between, *calls):
    return [number for number, lists in heard(*told, between, *calls)[len(told) + 1:]]


SOME = laid([begins(4, 3, 5, 6, 7), pair(0, 1), pair(1, 0), rider(0, 2, 1, 3), rider(1, 4), rider(2, 2), drop(0),
             drop(1), begins(9), rider(0, 4), full(), best(), cost([[0], [1, 0], [1, 0], [0, 2]]), cost([[0]]),
             more(1, 3), more(1, 5)])
SOME_ANSWERED = [1, 0, 1, 0, 1, -3, 1, 0, 1, 1, 1, -1, 1, 0, 1, -2, 1, -1, 1, 1,
                 6, 4, 4, 1, 2, 2, 2,
                 12, 0, 1, 6, 3, 1, 1, 1, 4, 0, 0, 0, 0,
                 3, 10, 1, 2, 1, -3,
                 4, 0, 2, 2, 2, 1, -1]


class Answers(unittest.TestCase):
    def test_each_answer_behind_how_many_numbers_it_has(self):
        self.assertEqual(answers(SOME), SOME_ANSWERED)

    def test_a_plain_list_of_whole_numbers_is_given_back(self):
        given = answers(SOME)
        self.assertIs(type(given), list)
        self.assertEqual({type(number) for number in given}, {int})

    def test_one_call(self):
        self.assertEqual(answers([0, 8, 5, 1, 1, 1]), [1, 0])
        self.assertEqual(answers([0, 0, 5, 1, 1, 1]), [1, -1])
        self.assertEqual(answers([1, 0, 1]), [1, -2])
        self.assertEqual(answers([2, 0, 1, 0, 0]), [1, -1])
        self.assertEqual(answers([3, 0]), [1, -2])
        self.assertEqual(answers([4]), [2, 0, 0])
        self.assertEqual(answers([5]), [3, 0, 1, 1])
        self.assertEqual(answers([6, 1, 0]), [3, 0, 1, 0])
        self.assertEqual(answers([6, 2, 1, 0]), [1, -3])
        self.assertEqual(answers([7, 0, 1]), [1, -1])

    def test_the_lists_answered_each_behind_how_many_numbers_it_has(self):
        told = [0, 3, 2, 1, 1, 1, 2, 0, 2, 0, 0, 2, 2, 3, 0, 2]
        begun = [1, 0, 1, 0, 1, 1]
        self.assertEqual(answers([*told, 4]), [*begun, 5, 3, 3, 1, 1, 1])
        self.assertEqual(answers([*told, 5]), [*begun, 8, 0, 1, 2, 2, 0, 0, 1, 1])
        self.assertEqual(answers([*told, 6, 7, 3, 1, 1, 1, 0, 1, 0]), [*begun, 3, 2, 1, 1])
        self.assertEqual(answers([*told, 7, 1, 3]), [*begun, 4, 1, 2, 1, 0])

    def test_forty_calls(self):
        calls = [begins(), *[rider()] * 21, *[drop(0)] * 8, pair(0, 1), pair(1, 0), *[rider()] * 8]
        self.assertEqual(len(calls), 40)
        self.assertEqual(asked(*calls), [0, *range(20), -5, *[0] * 8, 0, -3, *range(12, 20)])
        self.assertEqual(asked(*[begins()] * 40), [0] * 40)
        self.assertEqual(asked(*[drop(0)] * 40), [-2] * 40)
        self.assertEqual(heard(*[full()] * 40), [(0, [[]])] * 40)
        self.assertEqual(heard(*[best()] * 40), [(0, [[1]])] * 40)
        self.assertEqual(heard(*[cost([])] * 40), [(0, [[0]])] * 40)
        self.assertEqual(heard(*[more(0, 1)] * 40), [(-1, [])] * 40)

    def test_forty_calls_of_all_kinds(self):
        riders = [rider(0, 2), rider(1, 3, 1, 2), rider(2, 3, 1)]
        asking = [full(), best(), cost([[0], [0, 1], [1, 0]]), more(0, 3), more(1, 2), more(2, 2), cost([[0]])]
        calls = [full(), best(), begins(3, 2, 4, 2, 1), pair(0, 1), *riders, *asking, drop(0), *asking, drop(9),
                 pair(0, 1), begins(0), rider(0, 1, 10), *asking, begins(1, 1), *asking[:6]]
        self.assertEqual(len(calls), 40)
        first = [(3, [[1, 2, 2]]), (0, [[1], [0, 0], [1, 1], [0]]), (0, [[0]]), (-7, []), (-7, []), (-1, []), (-3, [])]
        second = [(3, [[0, 1, 2]]), (0, [[1], [1, 1], [0]]), (-3, []), (-7, []), (0, [[0]]), (-1, []), (-3, [])]
        third = [(1, [[0]]), (0, [[1]]), (-3, []), (-1, []), (-1, []), (-1, [])]
        changed = [(number, []) for number in (0, 0, 0, 1, 2)]
        refused = [(number, []) for number in (-2, -3, -1, -1)]
        self.assertEqual(
            heard(*calls),
            [(0, [[]]), (0, [[1]]), *changed, *first, (0, []), *second, *refused, *second, (0, []), *third])

    def test_each_call_before_the_first_begins(self):
        for a, b in ((0, 0), (0, 1), (1, 0), (HIGHEST, HIGHEST)):
            self.assertEqual(asked(pair(a, b)), [-2], (a, b))
        for told in ((0, 0, 0, 0), (0, 1, 0, 0), (0, 1, 0, 1), (1, 0, 10, 9), (0, HIGHEST, 0, 0)):
            self.assertEqual(asked(rider(*told)), [-1], told)
        for i in (0, 1, HIGHEST):
            self.assertEqual(asked(drop(i)), [-2], i)
        self.assertEqual(heard(full(), best(), cost([]), cost([[]]), more(0, 1)),
                         [(0, [[]]), (0, [[1]]), (0, [[0]]), (-3, []), (-1, [])])

    def test_all_calls_before_the_first_begins_leave_nothing(self):
        self.assertEqual(
            asked(rider(), pair(0, 1), drop(0), begins(), drop(0), pair(0, 1), rider()),
            [-1, -2, -2, 0, -2, 0, 0])

    def test_highest_numbers_in_each_place(self):
        ordinary = (([0, 8, 5, 1, 1, 1], [-1] * 5), ([1, 0, 1], [-2, -2]), ([2, 0, 1, 0, 0], [-1, -1, -1, -2]),
                    ([3, 0], [-2]), ([7, 0, 1], [-1, -1]))
        for call, refusals in ordinary:
            for place, refusal in enumerate(refusals, start=1):
                told = list(call)
                told[place] = HIGHEST
                self.assertEqual(asked(begins(), rider(), told), [0, 0, refusal], told)

    def test_highest_numbers_as_seats_of_cost(self):
        for rows in ([[HIGHEST]], [[HIGHEST, HIGHEST]], [[0, HIGHEST]]):
            self.assertEqual(asked(begins(1), rider(), cost(rows), rider()), [0, 0, -3, 1], rows)

    def test_refused_calls_leave_all_as_it_was(self):
        told = [begins(3, 2, 4, 2, 1), pair(0, 1), rider(0, 2), rider(1, 3, 1, 2)]
        asking = [full(), best(), cost([[0], [0, 1], [0]]), more(0, 1), pair(1, 0), drop(2), rider(0, 1)]
        once = heard(*told, *asking)[len(told):]
        for refused in (begins(0), begins(9, 1), begins(1, 6), begins(1, 1, 10001), pair(0, 2), pair(0, 0), pair(1, 0),
                        rider(1, 1), rider(0, 4), rider(0, 1, 10), rider(0, 1, 0, 3), drop(2), drop(HIGHEST),
                        cost([]), cost([[1], [1, 1], [1]]), more(1, 1), more(0, 4), more(0, 3)):
            found = heard(*told, refused, *asking)[len(told):]
            self.assertLess(found[0][0], 0, refused)
            self.assertEqual(found[0][1], [], refused)
            self.assertEqual(found[1:], once, refused)

    def test_too_few_seats_leave_all_as_it_was(self):
        told = [begins(2, 1), rider(0, 1), rider(0, 1)]
        self.assertEqual(heard(*told, best(), more(1, 2), full(), drop(1), best(), more(1, 2))[3:],
                         [(-6, []), (-6, []), (2, [[2, 0]]), (0, []), (0, [[1], [0]]), (0, [[0]])])

    def test_calls_that_only_ask_change_nothing(self):
        told = [begins(3, 2, 4, 2, 1), pair(0, 1), rider(0, 2), rider(1, 3, 1, 2)]
        asking = [full(), best(), cost([[0], [0, 1], [0]]), more(0, 1), more(2, 3)]
        once = heard(*told, *asking)[len(told):]
        for order in (asking, asking[::-1]):
            self.assertEqual(heard(*told, *order, *order, *asking)[-len(asking):], once)
        for between in asking:
            self.assertEqual(asked_behind(told, between, pair(0, 1), rider(0, 1), drop(3)), [-3, 2, -2], between)

    def test_numbers_told_are_not_taken_for_calls(self):
        self.assertEqual(asked(begins(3, 3, 3, 3, 3), rider(2, 3, 3, 3), drop(0), pair(1, 2)), [0, 0, 0, 0])
        self.assertEqual(asked(begins(1, 2, 0, 1, 2), pair(0, 1), rider(0, 1, 2, 2), drop(0)), [0, 0, 0, 0])

    def test_numbers_told_reach_the_train_in_their_order(self):
        train = Train()
        self.assertEqual(answer_of(train, 0, [3, 4, 5, 6, 7]), [0])
        self.assertEqual((train.legs, train.seats, train.move, train.wish, train.apart), (3, 4, 5, 6, 7))
        self.assertEqual(answer_of(train, 2, [1, 2, 3, 4]), [0])
        kept = train.riders[0]
        self.assertEqual((kept.start, kept.to, kept.group, kept.wished), (1, 2, 3, 4))

    def test_what_is_handed_in_is_the_same_afterwards(self):
        handed = list(SOME)
        answers(handed)
        self.assertEqual(handed, SOME)

    def test_what_is_handed_in_is_not_changed_for_a_while_either(self):
        self.assertEqual(answers(Sealed(SOME)), SOME_ANSWERED)

    def test_two_runs_one_behind_the_other_answer_alike(self):
        first = answers(SOME)
        second = answers(SOME)
        self.assertEqual(first, second)
        self.assertIsNot(first, second)

    def test_nothing_is_kept_from_one_time_to_the_next(self):
        answers(laid([begins(), pair(0, 1), rider()]))
        self.assertEqual(asked(pair(0, 1), rider(), drop(0)), [-2, -1, -2])
        answers(SOME).clear()
        self.assertEqual(answers(SOME), SOME_ANSWERED)


if __name__ == "__main__":
    unittest.main()
