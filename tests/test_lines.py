"""Whole lists of calls: how answers are told, and what is left untouched."""

import unittest

from cupboardkept.cupboard import answers
from lines import BEST, ENOUGH, MOST, PLAIN, ask, begins, check, last, line, split, thing


def checked(places, things, chosen):
    """What the words say of a set, day by day."""
    members = [things[i] for i in range(len(things)) if chosen & (1 << i)]
    for day in range(366):
        taking = sum(1 for comes, asked_for, worth in members if day in range(comes, asked_for))
        if taking > places:
            return [-6, day, taking]
    return [sum(worth for comes, asked_for, worth in members), len(members)]


def foremost_of(places, things, first, second):
    """What the words say of the set foremost in one number, then in another, by way of all the sets."""
    kept = []
    for chosen in range(1 << len(things)):
        told = checked(places, things, chosen)
        if told[0] >= 0:
            kept.append((told[first], told[second], chosen))
    foremost = max(numbers[:2] for numbers in kept)
    as_good = [chosen for one, other, chosen in kept if (one, other) == foremost]
    return [*foremost, len(as_good), min(as_good)]


def best_of(places, things):
    return foremost_of(places, things, 0, 1)


def most_of(places, things):
    return foremost_of(places, things, 1, 0)


def plain_of(places, things):
    """What the words say of things as they come, day by day."""
    kept = []
    there = []
    for day in range(366):
        there = [i for i in there if things[i][1] > day]
        for i, (comes, asked_for, worth) in enumerate(things):
            if comes != day:
                continue
            there.append(i)
            kept.append(i)
            if len(there) > places:
                thrown_out = sorted(there, key=lambda i: (things[i][1], i))[-1]
                there.remove(thrown_out)
                kept.remove(thrown_out)
    return [len(kept), sum(things[i][2] for i in kept), sum(1 << i for i in kept)]


def enough_of(things):
    """The fewest places with which the set of all things can be kept."""
    places = 0
    while checked(places, things, (1 << len(things)) - 1)[0] < 0:
        places += 1
    return [places]


def scattered_things(seed, how_many):
    """Things that look strewn about, but are the same in every run."""
    things = []
    for number in range(how_many):
        seed = (seed * 1103515245 + 12345) % (1 << 31)
        comes = (seed >> 8) % 12
        asked_for = comes + 1 + (seed >> 13) % 6
        things.append((comes, asked_for, (seed >> 18) % 5))
    return things


class Lines(unittest.TestCase):
    def test_the_numbers_as_they_stand(self):
        calls = [0, 2, 1, 2, 6, 10, 1, 4, 8, 20, 1, 5, 7, 40, 2, 3, 2, 7, 2, 8, 3, 0, 9, 1, 5, 5, 5]
        told = [1, 0, 1, 0, 1, 1, 1, 2, 2, 30, 2, 3, -6, 5, 3, 1, -1, 4, 60, 2, 1, 6, 1, -1, 1, -1]
        self.assertEqual(answers(calls), told)

    def test_all_seven_calls_as_they_stand(self):
        calls = [0, 2, 1, 2, 6, 10, 1, 4, 8, 20, 1, 5, 7, 40, 2, 7, 3, 4, 5, 6]
        told = [1, 0, 1, 0, 1, 1, 1, 2, 3, -6, 5, 3, 4, 60, 2, 1, 6, 4, 2, 60, 1, 6, 3, 2, 50, 5, 1, 3]
        self.assertEqual(answers(calls), told)

    def test_how_many_numbers_are_answered_ahead_of_them(self):
        self.assertEqual(answers([3]), [4, 0, 0, 1, 0])
        self.assertEqual(answers([4]), [4, 0, 0, 1, 0])
        self.assertEqual(answers([5]), [3, 0, 0, 0])
        self.assertEqual(answers([6]), [1, 0])
        self.assertEqual(answers([6, 5, 4, 6, 5]), [1, 0, 3, 0, 0, 0, 4, 0, 0, 1, 0, 1, 0, 3, 0, 0, 0])
        self.assertEqual(answers([1, 0, 9, 8, 4, 5, 6]), [1, 0, 4, 1, 8, 1, 1, 3, 1, 8, 1, 1, 1])

    def test_only_whole_numbers_in_one_list(self):
        asked = [BEST, MOST, PLAIN, ENOUGH]
        told = answers(line(begins(1), thing(0, 1, 1), check(1), check(2), *asked, begins(0), thing(1, 1, 1)))
        self.assertIs(type(told), list)
        self.assertEqual({type(number) for number in told}, {int})

    def test_every_set_against_the_words(self):
        for seed in range(40):
            places = 1 + seed % 5
            things = scattered_things(seed, 1 + seed % 5)
            calls = [begins(places)] + [thing(*numbers) for numbers in things]
            sets = range(1 << len(things))
            told = ask(*calls, *[check(chosen) for chosen in sets])[len(calls):]
            with self.subTest(seed=seed):
                self.assertEqual(told, [checked(places, things, chosen) for chosen in sets])

    def test_the_best_set_against_the_words(self):
        for seed in range(30):
            places = 1 + seed % 4
            things = scattered_things(seed + 1000, 3 + seed % 5)
            with self.subTest(seed=seed):
                told = last(begins(places), *[thing(*numbers) for numbers in things], BEST)
                self.assertEqual(told, best_of(places, things))

    def test_most_plain_and_enough_against_the_words(self):
        for seed in range(60):
            places = 1 + seed % 4
            things = scattered_things(seed + 2000, 3 + seed % 7)
            with self.subTest(seed=seed):
                told = ask(begins(places), *[thing(*numbers) for numbers in things], MOST, PLAIN, ENOUGH)
                words = [most_of(places, things), plain_of(places, things), enough_of(things)]
                self.assertEqual(told[-3:], words)

    def test_plain_against_the_words_with_many_things(self):
        for seed in range(200):
            things = scattered_things(seed + 3000, 9)
            calls = [thing(*numbers) for numbers in things]
            for places in range(1, 6):
                with self.subTest(seed=seed, places=places):
                    self.assertEqual(last(begins(places), *calls, PLAIN), plain_of(places, things))

    def test_by_the_right_rule_as_many_are_kept_as_can_be(self):
        for seed in range(60):
            things = scattered_things(seed + 4000, 9)
            calls = [begins(1 + seed % 5)] + [thing(*numbers) for numbers in things]
            with self.subTest(seed=seed):
                best, most, plain = ask(*calls, BEST, MOST, PLAIN)[-3:]
                self.assertEqual(plain[0], most[0])
                self.assertLessEqual(plain[1], most[1])
                self.assertLessEqual(most[1], best[0])
                self.assertLessEqual(best[1], most[0])
                sets = [check(told[-1]) for told in (best, most, plain)]
                kept = [[best[0], best[1]], [most[1], most[0]], [plain[1], plain[0]]]
                self.assertEqual(ask(*calls, *sets)[-3:], kept)

    def test_sixty_calls_of_all_kinds(self):
        things = scattered_things(7, 9)
        calls = [begins(2)] + [thing(*numbers) for numbers in things] + [BEST, MOST, PLAIN, ENOUGH] * 3
        told = [[0]] + [[number] for number in range(9)]
        told += [best_of(2, things), most_of(2, things), plain_of(2, things), enough_of(things)] * 3
        calls += [begins(6), thing(5, 5, 5), thing(5, 6, 5), check(512)]
        told += [[-1], [-1], [-5], [-1]]
        sets = range(9, 9 + 11 * 34, 11)
        calls += [check(chosen) for chosen in sets]
        told += [checked(2, things, chosen) for chosen in sets]
        self.assertEqual(len(calls), 60)
        self.assertEqual(ask(*calls), told)

    def test_after_each_thing_all_calls_that_ask(self):
        things = scattered_things(11, 6)
        calls = [begins(2)]
        told = [[0]]
        for number, numbers in enumerate(things):
            so_far = things[:number + 1]
            calls += [thing(*numbers), PLAIN, ENOUGH, check(1 << number), MOST]
            told += [[number], plain_of(2, so_far), enough_of(so_far), [numbers[2], 1], most_of(2, so_far)]
        self.assertEqual(ask(*calls), told)

    def test_sixty_times_plain_or_enough(self):
        self.assertEqual(ask(*[PLAIN] * 60), [[0, 0, 0]] * 60)
        self.assertEqual(ask(*[ENOUGH] * 60), [[0]] * 60)

    def test_sixty_things_in_240_numbers(self):
        calls = line(*[thing(0, 365, 1000)] * 60)
        self.assertEqual(len(calls), 240)
        self.assertEqual(split(answers(calls)), [[number] for number in range(9)] + [[-5]] * 51)

    def test_a_list_handed_in_stays_as_it_was(self):
        calls = line(begins(2), thing(5, 9, 3), thing(0, 9, 4), begins(9), thing(9, 9, 9), check(3), check(9), BEST)
        calls += line(MOST, PLAIN, ENOUGH, begins(1), thing(9, 20, 1), thing(0, 10, 2), MOST, PLAIN, ENOUGH)
        before = list(calls)
        told = answers(calls)
        self.assertEqual(calls, before)
        self.assertIsNot(told, calls)

    def test_a_second_use_is_as_if_for_the_first_time(self):
        calls = line(thing(0, 9, 3), thing(0, 9, 4), check(3), BEST, MOST, PLAIN, ENOUGH, begins(5))
        first = answers(calls)
        kept = list(first)
        first.clear()
        self.assertEqual(answers(calls), kept)
        nothing = [[0, 0], [-1], [0, 0, 1, 0], [0, 0, 1, 0], [0, 0, 0], [0]]
        self.assertEqual(ask(check(0), check(1), BEST, MOST, PLAIN, ENOUGH), nothing)
        self.assertEqual(answers(calls), kept)


if __name__ == "__main__":
    unittest.main()
