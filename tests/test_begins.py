import unittest

from lines import BEST, LARGEST, ask, begins, check, last, thing


def alike_things(how_many):
    return [thing(10, 20, 7) for number in range(how_many)]


class Begins(unittest.TestCase):
    def test_one_to_five_places_are_begun_with(self):
        for places in range(1, 6):
            self.assertEqual(ask(begins(places)), [[0]])

    def test_as_many_can_be_kept_as_there_are_places(self):
        for places in range(1, 6):
            calls = [begins(places)] + alike_things(places + 1)
            fits = (1 << places) - 1
            too_many = (1 << (places + 1)) - 1
            self.assertEqual(last(*calls, check(fits)), [7 * places, places])
            self.assertEqual(last(*calls, check(too_many)), [-6, 10, places + 1])

    def test_other_numbers_of_places_are_refused(self):
        for places in (0, 6, 7, 255, 256, 257, LARGEST):
            self.assertEqual(ask(begins(places)), [[-1]])

    def test_one_place_and_no_things_without_begins(self):
        self.assertEqual(ask(check(1), check(0)), [[-1], [0, 0]])
        self.assertEqual(last(*alike_things(2), check(3)), [-6, 10, 2])

    def test_begins_again_leaves_no_things(self):
        told = ask(begins(2), *alike_things(3), begins(2), check(1), check(0), BEST, thing(1, 2, 3))
        self.assertEqual(told[4:], [[0], [-1], [0, 0], [0, 0, 1, 0], [0]])

    def test_begins_again_sets_the_places_anew(self):
        told = ask(begins(5), begins(1), *alike_things(2), check(3))
        self.assertEqual(told[-1], [-6, 10, 2])
        told = ask(begins(1), begins(5), *alike_things(5), check(31))
        self.assertEqual(told[-1], [35, 5])

    def test_after_nine_things_begins_makes_room(self):
        told = ask(*alike_things(9), begins(3), thing(1, 2, 3), check(1))
        self.assertEqual(told[-3:], [[0], [0], [3, 1]])

    def test_after_a_refusal_all_is_as_it_was(self):
        for places in (0, 6, LARGEST):
            told = ask(begins(2), *alike_things(3), begins(places), check(3), check(7), BEST, thing(1, 2, 3))
            self.assertEqual(told[4:], [[-1], [14, 2], [-6, 10, 3], [14, 2, 3, 3], [3]])

    def test_refused_at_first_leaves_one_place(self):
        told = ask(begins(0), *alike_things(2), check(3))
        self.assertEqual(told, [[-1], [0], [1], [-6, 10, 2]])


if __name__ == "__main__":
    unittest.main()
