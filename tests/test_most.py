import unittest

from lines import BEST, LARGEST, MOST, ask, begins, check, last, thing


class Most(unittest.TestCase):
    def test_without_things(self):
        self.assertEqual(ask(MOST), [[0, 0, 1, 0]])
        self.assertEqual(last(begins(5), MOST), [0, 0, 1, 0])

    def test_one_thing(self):
        self.assertEqual(last(thing(3, 7, 50), MOST), [1, 50, 1, 1])
        self.assertEqual(last(thing(3, 7, 0), MOST), [1, 0, 1, 1])

    def test_how_many_goes_ahead_of_the_worth(self):
        things = [thing(0, 9, 1000), thing(0, 3, 1), thing(3, 6, 1), thing(6, 9, 1)]
        self.assertEqual(ask(*things, MOST, BEST)[4:], [[3, 3, 1, 14], [1000, 1, 1, 1]])

    def test_more_things_worth_0_than_the_best_set_has(self):
        things = [thing(0, 9, 1000), thing(0, 4, 0), thing(4, 9, 0)]
        self.assertEqual(ask(*things, MOST, BEST)[3:], [[2, 0, 1, 6], [1000, 1, 1, 1]])

    def test_of_as_many_things_those_worth_the_most(self):
        things = [thing(0, 5, 5), thing(0, 5, 6), thing(5, 9, 1)]
        self.assertEqual(last(*things, MOST), [2, 7, 1, 6])
        self.assertEqual(last(*things, thing(0, 5, 3), MOST), [2, 7, 1, 6])

    def test_as_many_things_worth_less_are_not_as_good(self):
        self.assertEqual(last(thing(0, 5, 6), thing(0, 5, 5), thing(0, 5, 6), MOST), [1, 6, 2, 1])
        self.assertEqual(last(thing(0, 5, 5), thing(0, 5, 6), thing(0, 5, 6), MOST), [1, 6, 2, 2])

    def test_of_the_same_worth_fewer_things_are_not_as_good(self):
        self.assertEqual(last(thing(0, 9, 10), thing(0, 5, 5), thing(5, 9, 5), MOST), [2, 10, 1, 6])
        self.assertEqual(last(thing(0, 5, 5), thing(5, 9, 5), thing(0, 9, 10), MOST), [2, 10, 1, 3])

    def test_the_least_number_and_not_the_one_of_the_first_thing(self):
        things = [thing(0, 5, 10), thing(0, 4, 10), thing(4, 10, 10), thing(5, 10, 10)]
        self.assertEqual(last(*things, MOST), [2, 20, 3, 6])

    def test_things_worth_0(self):
        self.assertEqual(last(thing(0, 5, 0), thing(5, 9, 8), thing(6, 8, 0), MOST), [2, 8, 1, 3])
        self.assertEqual(last(*[thing(day, day + 1, 0) for day in range(9)], MOST), [9, 0, 1, 511])
        self.assertEqual(last(begins(2), *[thing(0, 365, 0)] * 9, MOST), [2, 0, 36, 3])

    def test_several_places(self):
        things = [thing(0, 9, 3), thing(0, 9, 4), thing(0, 9, 5)]
        self.assertEqual(last(begins(1), *things, MOST), [1, 5, 1, 4])
        self.assertEqual(last(begins(2), *things, MOST), [2, 9, 1, 6])
        self.assertEqual(last(begins(3), *things, MOST), [3, 12, 1, 7])
        self.assertEqual(last(begins(5), *things, MOST), [3, 12, 1, 7])

    def test_with_two_places_more_but_worth_less(self):
        things = [thing(0, 9, 100), thing(0, 9, 90), thing(0, 5, 1), thing(5, 9, 1)]
        self.assertEqual(ask(begins(2), *things, MOST, BEST)[5:], [[3, 102, 1, 13], [190, 2, 1, 3]])

    def test_asked_for_on_the_day_on_which_another_comes(self):
        self.assertEqual(last(thing(5, 9, 2), thing(1, 5, 3), MOST), [2, 5, 1, 3])
        self.assertEqual(last(thing(4, 9, 2), thing(1, 5, 3), MOST), [1, 3, 1, 2])

    def test_nine_things(self):
        apart = [thing(day, day + 1, 1000) for day in range(9)]
        self.assertEqual(last(*apart, MOST), [9, 9000, 1, 511])
        alike = [thing(0, 365, 7)] * 9
        self.assertEqual(last(begins(1), *alike, MOST), [1, 7, 9, 1])
        self.assertEqual(last(begins(4), *alike, MOST), [4, 28, 126, 15])
        self.assertEqual(last(begins(5), *alike, MOST), [5, 35, 126, 31])

    def test_eight_small_ones_ahead_of_a_ninth_worth_more(self):
        small = [thing(day, day + 1, 1) for day in range(8)]
        self.assertEqual(ask(*small, thing(0, 8, 1000), MOST, BEST)[9:], [[8, 8, 1, 255], [1000, 1, 1, 256]])

    def test_before_and_after_a_refusal(self):
        told = ask(
            begins(2), thing(0, 9, 3), thing(0, 9, 3), thing(0, 9, 3), MOST,
            begins(6), MOST, thing(4, 4, 1000), MOST, check(7), check(LARGEST), MOST,
        )
        good = [2, 6, 3, 3]
        self.assertEqual(told[4:], [good, [-1], good, [-1], good, [-6, 0, 3], [-1], good])

    def test_before_and_after_begins(self):
        told = ask(thing(0, 9, 3), thing(0, 9, 4), MOST, begins(2), MOST, thing(0, 9, 5), thing(0, 9, 6), MOST)
        self.assertEqual(told[2:], [[1, 4, 1, 2], [0], [0, 0, 1, 0], [0], [1], [2, 11, 1, 3]])

    def test_most_changes_nothing(self):
        told = ask(thing(0, 9, 3), thing(0, 9, 4), MOST, MOST, check(3), check(1), BEST, thing(9, 10, 1), MOST)
        most = [1, 4, 1, 2]
        self.assertEqual(told[2:], [most, most, [-6, 0, 2], [3, 1], [4, 1, 1, 2], [2], [2, 5, 1, 6]])


if __name__ == "__main__":
    unittest.main()
