import unittest

from lines import ENOUGH, LARGEST, ask, begins, check, last, thing


class Enough(unittest.TestCase):
    def test_without_things(self):
        self.assertEqual(ask(ENOUGH), [[0]])
        self.assertEqual(last(begins(5), ENOUGH), [0])

    def test_one_thing(self):
        self.assertEqual(last(thing(0, 1, 0), ENOUGH), [1])
        self.assertEqual(last(thing(0, 365, 1000), ENOUGH), [1])
        self.assertEqual(last(thing(364, 365, 1), ENOUGH), [1])

    def test_never_on_the_same_day(self):
        self.assertEqual(last(*[thing(day, day + 1, 5) for day in range(9)], ENOUGH), [1])
        self.assertEqual(last(thing(20, 30, 5), thing(1, 10, 5), ENOUGH), [1])

    def test_all_on_one_day(self):
        for how_many in range(1, 10):
            for places in range(1, 6):
                told = last(begins(places), *[thing(7, 8, 5)] * how_many, ENOUGH)
                self.assertEqual(told, [how_many])

    def test_all_on_one_day_though_they_come_on_others(self):
        self.assertEqual(last(*[thing(day, 20 - day, 5) for day in range(9)], ENOUGH), [9])
        self.assertEqual(last(*[thing(8 - day, 9 + day, 5) for day in range(9)], ENOUGH), [9])

    def test_comes_on_the_day_on_which_another_is_asked_for(self):
        self.assertEqual(last(thing(0, 5, 1), thing(5, 9, 1), ENOUGH), [1])
        self.assertEqual(last(thing(5, 9, 1), thing(0, 5, 1), ENOUGH), [1])

    def test_comes_a_day_before_another_is_asked_for(self):
        self.assertEqual(last(thing(0, 6, 1), thing(5, 9, 1), ENOUGH), [2])
        self.assertEqual(last(thing(5, 9, 1), thing(0, 6, 1), ENOUGH), [2])

    def test_the_fullest_day_and_not_the_first_or_the_last(self):
        things = [thing(0, 9, 1), thing(4, 6, 1), thing(5, 7, 1), thing(9, 12, 1), thing(11, 14, 1)]
        self.assertEqual(last(*things, ENOUGH), [3])
        self.assertEqual(last(*reversed(things), ENOUGH), [3])

    def test_a_chain_in_which_two_at_a_time_meet(self):
        things = [thing(0, 3, 1), thing(2, 6, 1), thing(5, 9, 1), thing(8, 11, 1)]
        self.assertEqual(last(*things, ENOUGH), [2])

    def test_day_0_and_the_last_day(self):
        self.assertEqual(last(thing(0, 365, 1), thing(0, 1, 1), ENOUGH), [2])
        self.assertEqual(last(thing(0, 365, 1), thing(364, 365, 1), ENOUGH), [2])

    def test_more_and_fewer_than_there_are_places(self):
        things = [thing(0, 9, 1), thing(1, 9, 1), thing(2, 9, 1)]
        for places in range(1, 6):
            self.assertEqual(last(begins(places), *things, ENOUGH), [3])

    def test_with_so_many_places_all_can_be_kept(self):
        things = [thing(day, day + 4, 1) for day in range(9)]
        self.assertEqual(last(*things, ENOUGH), [4])
        self.assertEqual(last(begins(4), *things, check(511)), [9, 9])
        self.assertEqual(last(begins(3), *things, check(511)), [-6, 3, 4])

    def test_before_and_after_a_refusal(self):
        told = ask(
            thing(0, 9, 3), thing(1, 8, 4), ENOUGH, begins(6), ENOUGH,
            thing(4, 4, 5), thing(4, 366, 5), thing(4, 6, 1001), ENOUGH, check(3), check(LARGEST), ENOUGH,
        )
        self.assertEqual(told[2:], [[2], [-1], [2], [-1], [-1], [-1], [2], [-6, 1, 2], [-1], [2]])

    def test_before_and_after_begins(self):
        told = ask(thing(0, 9, 3), thing(0, 8, 4), ENOUGH, begins(2), ENOUGH, thing(0, 9, 5), ENOUGH)
        self.assertEqual(told[2:], [[2], [0], [0], [0], [1]])

    def test_enough_changes_nothing(self):
        told = ask(thing(0, 9, 3), thing(0, 9, 4), ENOUGH, ENOUGH, check(3), check(1), thing(9, 10, 1), ENOUGH)
        self.assertEqual(told[2:], [[2], [2], [-6, 0, 2], [3, 1], [2], [2]])


if __name__ == "__main__":
    unittest.main()
