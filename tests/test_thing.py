import unittest

from lines import BEST, LARGEST, ask, begins, check, thing

NOT_ALLOWED = (
    (5, 5, 1),
    (0, 0, 1),
    (365, 365, 1),
    (6, 5, 1),
    (365, 0, 1),
    (LARGEST, 365, 1),
    (LARGEST, 0, 1),
    (0, 366, 1),
    (365, 366, 1),
    (366, 367, 1),
    (0, LARGEST, 1),
    (LARGEST, LARGEST, 1),
    (0, 1, 1001),
    (0, 1, LARGEST),
    (LARGEST, LARGEST, LARGEST),
)


class AThing(unittest.TestCase):
    def test_numbered_from_0_on(self):
        told = ask(*[thing(day, day + 1, day) for day in range(9)])
        self.assertEqual(told, [[number] for number in range(9)])

    def test_the_numbers_follow_the_calls_and_not_the_days(self):
        told = ask(thing(9, 10, 1), thing(0, 3, 20), check(1), check(2))
        self.assertEqual(told, [[0], [1], [1, 1], [20, 1]])

    def test_the_edges_that_are_allowed(self):
        for numbers in ((0, 1, 0), (0, 365, 1000), (364, 365, 0), (364, 365, 1000), (0, 365, 0)):
            self.assertEqual(ask(thing(*numbers), check(1)), [[0], [numbers[2], 1]])

    def test_what_is_refused(self):
        for numbers in NOT_ALLOWED:
            with self.subTest(numbers=numbers):
                self.assertEqual(ask(thing(*numbers)), [[-1]])

    def test_after_a_refusal_all_is_as_it_was(self):
        for numbers in NOT_ALLOWED:
            with self.subTest(numbers=numbers):
                told = ask(
                    begins(2), thing(1, 4, 5), thing(*numbers), check(1), check(2), BEST, thing(1, 4, 6), check(3)
                )
                self.assertEqual(told, [[0], [0], [-1], [5, 1], [-1], [5, 1, 1, 1], [1], [11, 2]])

    def test_the_tenth_is_refused(self):
        nine = [thing(day, day + 1, 10) for day in range(9)]
        told = ask(*nine, thing(9, 10, 10), thing(0, 365, 1000), check(511), check(512), BEST)
        self.assertEqual(told[8:], [[8], [-5], [-5], [90, 9], [-1], [90, 9, 1, 511]])

    def test_refused_things_do_not_count_to_the_nine(self):
        told = ask(*[thing(5, 5, 1)] * 9, *[thing(5, 6, 1)] * 10)
        self.assertEqual(told, [[-1]] * 9 + [[number] for number in range(9)] + [[-5]])

    def test_of_both_refusals_the_one_told_first(self):
        nine = [thing(day, day + 1, 10) for day in range(9)]
        for numbers in NOT_ALLOWED:
            with self.subTest(numbers=numbers):
                self.assertEqual(ask(*nine, thing(*numbers))[-1], [-1])


if __name__ == "__main__":
    unittest.main()
