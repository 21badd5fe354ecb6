"""Whole lists of calls: how answers are told, and what is left untouched."""

import unittest

from cupboardkept.cupboard import answers
from lines import BEST, ask, begins, check, last, line, split, thing


def checked(places, things, chosen):
    """What the words say of a set, day by day."""
    members = [things[i] for i in range(len(things)) if chosen & (1 << i)]
    for day in range(366):
        taking = sum(1 for comes, asked_for, worth in members if day in range(comes, asked_for))
        if taking > places:
            return [-6, day, taking]
    return [sum(worth for comes, asked_for, worth in members), len(members)]


def best_of(places, things):
    """What the words say of the best set, by way of all the sets."""
    kept = []
    for chosen in range(1 << len(things)):
        told = checked(places, things, chosen)
        if told[0] >= 0:
            kept.append((told[0], told[1], chosen))
    worth, how_many = max((worth, how_many) for worth, how_many, chosen in kept)
    as_good = [chosen for w, n, chosen in kept if (w, n) == (worth, how_many)]
    return [worth, how_many, len(as_good), min(as_good)]


def scattered_things(seed, how_many):
    """Things that look strewn about, but are the same in every run."""
    things = []
    for number in range(how_many):
        seed = (seed * 1103515245 + 12345) % (1 << 31)
        comes = (seed >> 8) % 12
        asked_for = comes + 1 + (seed >> 13) % 6
        things.append((comes, asked_for, (seed >> 18) % 5))
    return things


class Lines(unittest.TestCase):
    def test_the_numbers_as_they_stand(self):
        calls = [0, 2, 1, 2, 6, 10, 1, 4, 8, 20, 1, 5, 7, 40, 2, 3, 2, 7, 2, 8, 3, 0, 9, 1, 5, 5, 5]
        told = [1, 0, 1, 0, 1, 1, 1, 2, 2, 30, 2, 3, -6, 5, 3, 1, -1, 4, 60, 2, 1, 6, 1, -1, 1, -1]
        self.assertEqual(answers(calls), told)

    def test_only_whole_numbers_in_one_list(self):
        told = answers(line(begins(1), thing(0, 1, 1), check(1), check(2), BEST, begins(0), thing(1, 1, 1)))
        self.assertIs(type(told), list)
        self.assertEqual({type(number) for number in told}, {int})

    def test_every_set_against_the_words(self):
        for seed in range(40):
            places = 1 + seed % 5
            things = scattered_things(seed, 1 + seed % 5)
            calls = [begins(places)] + [thing(*numbers) for numbers in things]
            sets = range(1 << len(things))
            told = ask(*calls, *[check(chosen) for chosen in sets])[len(calls):]
            with self.subTest(seed=seed):
                self.assertEqual(told, [checked(places, things, chosen) for chosen in sets])

    def test_the_best_set_against_the_words(self):
        for seed in range(30):
            places = 1 + seed % 4
            things = scattered_things(seed + 1000, 3 + seed % 5)
            with self.subTest(seed=seed):
                told = last(begins(places), *[thing(*numbers) for numbers in things], BEST)
                self.assertEqual(told, best_of(places, things))

    def test_sixty_calls_of_all_kinds(self):
        things = scattered_things(7, 9)
        calls = [begins(2)] + [thing(*numbers) for numbers in things] + [BEST] * 6
        sets = range(9, 9 + 11 * 44, 11)
        calls += [check(chosen) for chosen in sets]
        self.assertEqual(len(calls), 60)
        told = [[0]] + [[number] for number in range(9)] + [best_of(2, things)] * 6
        told += [checked(2, things, chosen) for chosen in sets]
        self.assertEqual(ask(*calls), told)

    def test_sixty_things_in_240_numbers(self):
        calls = line(*[thing(0, 365, 1000)] * 60)
        self.assertEqual(len(calls), 240)
        self.assertEqual(split(answers(calls)), [[number] for number in range(9)] + [[-5]] * 51)

    def test_a_list_handed_in_stays_as_it_was(self):
        calls = line(begins(2), thing(0, 9, 3), thing(0, 9, 4), begins(9), thing(9, 9, 9), check(3), check(9), BEST)
        before = list(calls)
        told = answers(calls)
        self.assertEqual(calls, before)
        self.assertIsNot(told, calls)

    def test_a_second_use_is_as_if_for_the_first_time(self):
        calls = line(thing(0, 9, 3), thing(0, 9, 4), check(3), BEST, begins(5))
        first = answers(calls)
        kept = list(first)
        first.clear()
        self.assertEqual(answers(calls), kept)
        self.assertEqual(ask(check(0), check(1), BEST), [[0, 0], [-1], [0, 0, 1, 0]])
        self.assertEqual(answers(calls), kept)


if __name__ == "__main__":
    unittest.main()
