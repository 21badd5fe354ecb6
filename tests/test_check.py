import unittest

from lines import LARGEST, ask, begins, check, last, thing


class Check(unittest.TestCase):
    def test_the_empty_set(self):
        self.assertEqual(ask(check(0)), [[0, 0]])
        self.assertEqual(last(thing(1, 5, 9), thing(1, 5, 9), check(0)), [0, 0])

    def test_sets_that_can_be_kept(self):
        things = [begins(2), thing(2, 6, 10), thing(4, 8, 20), thing(6, 9, 400)]
        told = ask(*things, *[check(chosen) for chosen in range(8)])
        kept = [[0, 0], [10, 1], [20, 1], [30, 2], [400, 1], [410, 2], [420, 2], [430, 3]]
        self.assertEqual(told[4:], kept)

    def test_a_thing_worth_0_counts_as_a_thing(self):
        self.assertEqual(last(thing(2, 6, 0), thing(6, 7, 0), check(3)), [0, 2])

    def test_the_largest_worth_together(self):
        things = [thing(day, day + 1, 1000) for day in range(9)]
        self.assertEqual(last(*things, check(511)), [9000, 9])

    def test_asked_for_on_the_day_on_which_another_comes(self):
        self.assertEqual(last(thing(2, 6, 10), thing(6, 8, 20), check(3)), [30, 2])
        self.assertEqual(last(thing(6, 8, 20), thing(2, 6, 10), check(3)), [30, 2])

    def test_asked_for_a_day_after_another_comes(self):
        self.assertEqual(last(thing(2, 7, 10), thing(6, 8, 20), check(3)), [-6, 6, 2])
        self.assertEqual(last(thing(6, 8, 20), thing(2, 7, 10), check(3)), [-6, 6, 2])

    def test_too_many_on_day_0_and_on_the_last_day(self):
        self.assertEqual(last(thing(0, 365, 1), thing(0, 1, 1), check(3)), [-6, 0, 2])
        self.assertEqual(last(thing(0, 365, 1), thing(364, 365, 1), check(3)), [-6, 364, 2])

    def test_the_first_day_and_not_the_fullest(self):
        things = [thing(1, 10, 1), thing(2, 10, 1), thing(3, 10, 1)]
        self.assertEqual(last(*things, check(7)), [-6, 2, 2])

    def test_the_first_day_whatever_the_order_of_the_things(self):
        things = [thing(10, 20, 1), thing(12, 20, 1), thing(1, 5, 1), thing(3, 6, 1)]
        self.assertEqual(last(*things, check(15)), [-6, 3, 2])
        self.assertEqual(last(*things, check(7)), [-6, 12, 2])

    def test_all_that_come_on_that_day_are_counted(self):
        things = [begins(2)] + [thing(5, 9, 1) for number in range(4)] + [thing(1, 8, 1), thing(1, 5, 1)]
        self.assertEqual(last(*things, check(15)), [-6, 5, 4])
        self.assertEqual(last(*things, check(31)), [-6, 5, 5])
        self.assertEqual(last(*things, check(63)), [-6, 5, 5])

    def test_only_things_of_the_set_take_a_place(self):
        things = [thing(1, 9, 1), thing(2, 9, 20), thing(9, 12, 300)]
        self.assertEqual(last(*things, check(5)), [301, 2])
        self.assertEqual(last(*things, check(6)), [320, 2])
        self.assertEqual(last(*things, check(7)), [-6, 2, 2])

    def test_five_places_full_and_overfull(self):
        things = [begins(5)] + [thing(0, 365, 100) for number in range(9)]
        self.assertEqual(last(*things, check(31)), [500, 5])
        self.assertEqual(last(*things, check(496)), [500, 5])
        self.assertEqual(last(*things, check(63)), [-6, 0, 6])
        self.assertEqual(last(*things, check(511)), [-6, 0, 9])

    def test_a_bit_of_a_thing_that_is_not_there(self):
        for how_many in range(10):
            things = [thing(day, day + 1, 1) for day in range(how_many)]
            beyond = 1 << how_many
            for chosen in (beyond, beyond + 1, 2 * beyond - 1, 2 * beyond, 1 << 31, (1 << 32) - beyond, LARGEST):
                with self.subTest(how_many=how_many, chosen=chosen):
                    self.assertEqual(last(*things, check(chosen)), [-1])
            self.assertEqual(last(*things, check(beyond - 1)), [how_many, how_many])

    def test_no_such_set_is_told_ahead_of_what_can_not_be_kept(self):
        self.assertEqual(last(thing(1, 9, 1), thing(1, 9, 1), check(7)), [-1])

    def test_after_a_refusal_all_is_as_it_was(self):
        told = ask(thing(1, 9, 1), thing(1, 9, 20), check(3), check(4), check(2), check(3), check(1), thing(9, 10, 3))
        self.assertEqual(told[2:], [[-6, 1, 2], [-1], [20, 1], [-6, 1, 2], [1, 1], [2]])


if __name__ == "__main__":
    unittest.main()
