import unittest

from lines import BEST, LARGEST, PLAIN, ask, begins, check, last, thing


class Plain(unittest.TestCase):
    def test_without_things(self):
        self.assertEqual(ask(PLAIN), [[0, 0, 0]])
        self.assertEqual(last(begins(5), PLAIN), [0, 0, 0])

    def test_one_thing(self):
        self.assertEqual(last(thing(0, 365, 50), PLAIN), [1, 50, 1])
        self.assertEqual(last(thing(364, 365, 0), PLAIN), [1, 0, 1])

    def test_the_one_that_has_just_come_is_thrown_out(self):
        self.assertEqual(last(thing(0, 5, 1), thing(2, 9, 20), PLAIN), [1, 1, 1])

    def test_one_that_came_earlier_is_thrown_out(self):
        self.assertEqual(last(thing(0, 9, 1), thing(2, 5, 20), PLAIN), [1, 20, 2])

    def test_neither_the_first_nor_the_last_that_came_is_thrown_out(self):
        things = [thing(0, 7, 1), thing(1, 9, 20), thing(2, 8, 300)]
        self.assertEqual(last(begins(2), *things, PLAIN), [2, 301, 5])

    def test_the_worth_does_not_matter(self):
        self.assertEqual(last(thing(0, 9, 1000), thing(2, 5, 0), PLAIN), [1, 0, 2])
        self.assertEqual(last(thing(0, 5, 0), thing(2, 9, 1000), PLAIN), [1, 0, 1])

    def test_told_in_another_order_than_they_come(self):
        self.assertEqual(last(thing(5, 9, 1), thing(1, 6, 20), PLAIN), [1, 20, 2])
        self.assertEqual(last(thing(5, 9, 1), thing(1, 20, 20), PLAIN), [1, 1, 1])
        things = [thing(6, 8, 1), thing(4, 7, 20), thing(1, 5, 300)]
        self.assertEqual(last(*things, PLAIN), [2, 301, 5])

    def test_several_of_one_day(self):
        things = [thing(3, 9, 1), thing(3, 7, 20), thing(3, 8, 300)]
        self.assertEqual(last(begins(1), *things, PLAIN), [1, 20, 2])
        self.assertEqual(last(begins(2), *things, PLAIN), [2, 320, 6])
        self.assertEqual(last(begins(3), *things, PLAIN), [3, 321, 7])

    def test_several_of_one_day_behind_one_that_is_there(self):
        things = [thing(5, 7, 1), thing(5, 9, 20), thing(2, 8, 300)]
        self.assertEqual(last(begins(1), *things, PLAIN), [1, 1, 1])
        self.assertEqual(last(begins(2), *things, PLAIN), [2, 301, 5])

    def test_of_several_asked_for_last_the_greatest_number_is_thrown_out(self):
        self.assertEqual(last(thing(0, 9, 1), thing(2, 9, 20), PLAIN), [1, 1, 1])
        self.assertEqual(last(begins(2), *[thing(0, 9, 4)] * 4, PLAIN), [2, 8, 3])

    def test_the_greatest_number_even_if_it_came_earlier(self):
        self.assertEqual(last(thing(2, 9, 1), thing(0, 9, 20), PLAIN), [1, 1, 1])
        things = [thing(4, 9, 1), thing(0, 9, 20), thing(2, 9, 300)]
        self.assertEqual(last(begins(2), *things, PLAIN), [2, 21, 3])

    def test_the_last_day_goes_ahead_of_the_greatest_number(self):
        things = [thing(0, 9, 1), thing(0, 8, 20), thing(0, 8, 300)]
        self.assertEqual(last(begins(2), *things, PLAIN), [2, 320, 6])

    def test_comes_on_the_day_on_which_another_is_asked_for(self):
        self.assertEqual(last(thing(0, 5, 1), thing(5, 9, 20), PLAIN), [2, 21, 3])
        self.assertEqual(last(thing(5, 9, 1), thing(0, 5, 20), PLAIN), [2, 21, 3])

    def test_comes_a_day_before_another_is_asked_for(self):
        self.assertEqual(last(thing(0, 6, 1), thing(5, 9, 20), PLAIN), [1, 1, 1])

    def test_what_was_asked_for_stays_kept(self):
        things = [thing(day, day + 1, 1 << day) for day in range(9)]
        self.assertEqual(last(*things, PLAIN), [9, 511, 511])

    def test_what_is_thrown_out_takes_no_place_from_then_on(self):
        things = [thing(0, 20, 1), thing(1, 5, 20), thing(3, 4, 300), thing(4, 30, 4)]
        self.assertEqual(last(*things, PLAIN), [2, 304, 12])

    def test_what_is_thrown_out_does_not_come_back(self):
        self.assertEqual(last(thing(0, 20, 1), thing(1, 5, 20), PLAIN), [1, 20, 2])
        self.assertEqual(last(thing(0, 20, 1), thing(1, 5, 20), thing(5, 9, 300), PLAIN), [2, 320, 6])

    def test_what_comes_later_is_not_known(self):
        # Without thing 0 as many could be kept, and worth more.
        things = [thing(0, 4, 1), thing(2, 5, 20), thing(5, 8, 300)]
        self.assertEqual(ask(*things, PLAIN, BEST)[3:], [[2, 301, 5], [320, 2, 1, 6]])

    def test_five_places(self):
        things = [thing(day, 20 - day, 1 << day) for day in range(5)]
        self.assertEqual(last(begins(5), *things, PLAIN), [5, 31, 31])
        self.assertEqual(last(begins(5), *things, thing(5, 18, 32), PLAIN), [5, 62, 62])
        self.assertEqual(last(begins(5), *things, thing(5, 20, 32), PLAIN), [5, 31, 31])
        self.assertEqual(last(begins(5), *things, thing(16, 21, 32), PLAIN), [6, 63, 63])

    def test_nine_things(self):
        inward = [thing(day, 20 - day, 1 << day) for day in range(9)]
        self.assertEqual(last(begins(1), *inward, PLAIN), [1, 256, 256])
        self.assertEqual(last(begins(5), *inward, PLAIN), [5, 496, 496])
        onward = [thing(day, day + 3, 1 << day) for day in range(9)]
        self.assertEqual(last(begins(1), *onward, PLAIN), [3, 73, 73])
        self.assertEqual(last(begins(2), *onward, PLAIN), [6, 219, 219])
        self.assertEqual(last(begins(3), *onward, PLAIN), [9, 511, 511])

    def test_nine_alike(self):
        for places in range(1, 6):
            told = last(begins(places), *[thing(0, 365, 1000)] * 9, PLAIN)
            self.assertEqual(told, [places, 1000 * places, (1 << places) - 1])

    def test_before_and_after_a_refusal(self):
        told = ask(
            begins(2), thing(0, 9, 3), thing(1, 8, 4), thing(2, 7, 5), PLAIN,
            begins(6), PLAIN, thing(4, 4, 1000), PLAIN, check(7), check(LARGEST), PLAIN,
        )
        good = [2, 9, 6]
        self.assertEqual(told[4:], [good, [-1], good, [-1], good, [-6, 2, 3], [-1], good])

    def test_before_and_after_begins(self):
        told = ask(thing(0, 9, 3), thing(0, 8, 4), PLAIN, begins(2), PLAIN, thing(0, 9, 5), thing(0, 9, 6), PLAIN)
        self.assertEqual(told[2:], [[1, 4, 2], [0], [0, 0, 0], [0], [1], [2, 11, 3]])

    def test_plain_changes_nothing(self):
        told = ask(thing(5, 9, 3), thing(0, 6, 4), PLAIN, PLAIN, check(1), check(2), check(3), thing(9, 10, 1), PLAIN)
        self.assertEqual(told[2:], [[1, 4, 2], [1, 4, 2], [3, 1], [4, 1], [-6, 5, 2], [2], [2, 5, 6]])


if __name__ == "__main__":
    unittest.main()
