import unittest

from lines import BEST, LARGEST, ask, begins, check, last, thing


class Best(unittest.TestCase):
    def test_without_things(self):
        self.assertEqual(ask(BEST), [[0, 0, 1, 0]])
        self.assertEqual(last(begins(5), BEST), [0, 0, 1, 0])

    def test_one_thing(self):
        self.assertEqual(last(thing(3, 7, 50), BEST), [50, 1, 1, 1])

    def test_a_thing_worth_0_is_better_than_none(self):
        self.assertEqual(last(thing(3, 7, 0), BEST), [0, 1, 1, 1])

    def test_worth_0_beside_others_is_kept_where_there_is_a_place(self):
        things = [thing(0, 5, 0), thing(5, 9, 8), thing(6, 8, 0)]
        self.assertEqual(last(*things, BEST), [8, 2, 1, 3])

    def test_the_worth_goes_ahead_of_how_many(self):
        things = [thing(0, 9, 1000), thing(0, 3, 1), thing(3, 6, 1), thing(6, 9, 1)]
        self.assertEqual(last(*things, BEST), [1000, 1, 1, 1])

    def test_several_small_ones_can_be_worth_more(self):
        things = [thing(0, 9, 10), thing(0, 4, 6), thing(4, 9, 6)]
        self.assertEqual(last(*things, BEST), [12, 2, 1, 6])

    def test_of_the_same_worth_the_most_things(self):
        things = [thing(0, 9, 10), thing(0, 5, 5), thing(5, 9, 5)]
        self.assertEqual(last(*things, BEST), [10, 2, 1, 6])

    def test_of_the_same_worth_fewer_things_behind_more_are_not_as_good(self):
        things = [thing(0, 5, 5), thing(5, 9, 5), thing(0, 9, 10)]
        self.assertEqual(last(*things, BEST), [10, 2, 1, 3])

    def test_of_several_as_good_how_many_and_the_least_number(self):
        self.assertEqual(last(thing(0, 9, 10), thing(0, 9, 10), BEST), [10, 1, 2, 1])
        things = [thing(0, 9, 5), thing(0, 9, 10), thing(0, 9, 10)]
        self.assertEqual(last(*things, BEST), [10, 1, 2, 2])

    def test_the_least_number_and_not_the_one_of_the_first_thing(self):
        things = [thing(0, 5, 10), thing(0, 4, 10), thing(4, 10, 10), thing(5, 10, 10)]
        self.assertEqual(last(*things, BEST), [20, 2, 3, 6])

    def test_several_places(self):
        things = [thing(0, 9, 3), thing(0, 9, 4), thing(0, 9, 5)]
        self.assertEqual(last(begins(1), *things, BEST), [5, 1, 1, 4])
        self.assertEqual(last(begins(2), *things, BEST), [9, 2, 1, 6])
        self.assertEqual(last(begins(3), *things, BEST), [12, 3, 1, 7])
        self.assertEqual(last(begins(5), *things, BEST), [12, 3, 1, 7])

    def test_asked_for_on_the_day_on_which_another_comes(self):
        self.assertEqual(last(thing(5, 9, 2), thing(1, 5, 3), BEST), [5, 2, 1, 3])
        self.assertEqual(last(thing(4, 9, 2), thing(1, 5, 3), BEST), [3, 1, 1, 2])

    def test_nine_things(self):
        apart = [thing(day, day + 1, 1000) for day in range(9)]
        self.assertEqual(last(*apart, BEST), [9000, 9, 1, 511])
        alike = [thing(0, 365, 7)] * 9
        self.assertEqual(last(begins(1), *alike, BEST), [7, 1, 9, 1])
        self.assertEqual(last(begins(4), *alike, BEST), [28, 4, 126, 15])
        self.assertEqual(last(begins(5), *alike, BEST), [35, 5, 126, 31])

    def test_nine_things_worth_0(self):
        self.assertEqual(last(*[thing(day, day + 1, 0) for day in range(9)], BEST), [0, 9, 1, 511])
        self.assertEqual(last(begins(2), *[thing(0, 365, 0)] * 9, BEST), [0, 2, 36, 3])

    def test_before_and_after_a_refusal(self):
        told = ask(
            begins(2), thing(0, 9, 3), thing(0, 9, 3), thing(0, 9, 3), BEST,
            begins(6), BEST, thing(4, 4, 1000), BEST, check(7), check(LARGEST), BEST,
        )
        good = [6, 2, 3, 3]
        self.assertEqual(told[4:], [good, [-1], good, [-1], good, [-6, 0, 3], [-1], good])

    def test_before_and_after_begins(self):
        told = ask(thing(0, 9, 3), thing(0, 9, 4), BEST, begins(2), BEST, thing(0, 9, 5), thing(0, 9, 6), BEST)
        self.assertEqual(told[2:], [[4, 1, 1, 2], [0], [0, 0, 1, 0], [0], [1], [11, 2, 1, 3]])

    def test_best_changes_nothing(self):
        told = ask(thing(0, 9, 3), thing(0, 9, 4), BEST, BEST, check(3), check(1), check(2), thing(9, 10, 1), BEST)
        best = [4, 1, 1, 2]
        self.assertEqual(told[2:], [best, best, [-6, 0, 2], [3, 1], [4, 1], [2], [5, 2, 1, 6]])


if __name__ == "__main__":
    unittest.main()
