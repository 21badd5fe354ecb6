"""A cupboard, its things, and the calls about them."""

MOST_PLACES = 5
MOST_THINGS = 9
LAST_DAY = 365
MOST_WORTH = 1000

BEGINS = 0
THING = 1
CHECK = 2
BEST = 3
MOST = 4
PLAIN = 5
ENOUGH = 6

# By a call's number: how many whole numbers stand behind it.
NUMBERS_BEHIND = (1, 3, 1, 0, 0, 0, 0)


class Thing:
    def __init__(self, comes, asked_for, worth):
        self.comes = comes
        self.asked_for = asked_for
        self.worth = worth

    def takes_a_place(self, day):
        return self.comes <= day < self.asked_for


def places_taken(things, day):
    return len([thing for thing in things if thing.takes_a_place(day)])


def first_overfull_day(things, places):
    # More places than on the day before are taken only when a thing comes,
    # so no other day can be the first one.
    for day in sorted([thing.comes for thing in things]):
        if places_taken(things, day) > places:
            return day
    return None


def worth_together(things):
    return sum([thing.worth for thing in things])


def worth_then_how_many(things):
    return (worth_together(things), len(things))


def how_many_then_worth(things):
    return (len(things), worth_together(things))


def numbers_as_they_come(things):
    return sorted(range(len(things)), key=lambda number: (things[number].comes, number))


def asked_for_last(things, numbers):
    return max(numbers, key=lambda number: (things[number].asked_for, number))


def kept_as_they_come(things, places):
    kept = []
    for number in numbers_as_they_come(things):
        kept.append(number)
        day = things[number].comes
        # What was asked for by then stays kept, but can't be thrown out any more.
        there = [other for other in kept if things[other].takes_a_place(day)]
        if len(there) > places:
            kept.remove(asked_for_last(things, there))
    return kept


class Cupboard:
    def __init__(self):
        self.places = 1
        self.things = []

    def things_of(self, chosen):
        return [thing for number, thing in enumerate(self.things) if (chosen >> number) & 1 == 1]

    def begins(self, places):
        if places < 1 or places > MOST_PLACES:
            return [-1]
        self.places = places
        self.things = []
        return [0]

    def thing(self, comes, asked_for, worth):
        if asked_for <= comes or asked_for > LAST_DAY or worth > MOST_WORTH:
            return [-1]
        if len(self.things) == MOST_THINGS:
            return [-5]
        self.things.append(Thing(comes, asked_for, worth))
        return [len(self.things) - 1]

    def check(self, chosen):
        if chosen >> len(self.things) != 0:
            return [-1]
        things = self.things_of(chosen)
        day = first_overfull_day(things, self.places)
        if day is not None:
            return [-6, day, places_taken(things, day)]
        return [worth_together(things), len(things)]

    def foremost(self, rank_of):
        foremost_rank = (0, 0)
        foremost_set = 0
        as_good = 0
        # The sets are walked from the least number on, and only a better one
        # takes the place of the one found: so the least of several is told.
        for chosen in range(1 << len(self.things)):
            things = self.things_of(chosen)
            rank = rank_of(things)
            if rank < foremost_rank or first_overfull_day(things, self.places) is not None:
                continue
            if rank > foremost_rank:
                foremost_rank = rank
                foremost_set = chosen
                as_good = 0
            as_good += 1
        return [foremost_rank[0], foremost_rank[1], as_good, foremost_set]

    def best(self):
        return self.foremost(worth_then_how_many)

    def most(self):
        return self.foremost(how_many_then_worth)

    def plain(self):
        kept = sum([1 << number for number in kept_as_they_come(self.things, self.places)])
        things = self.things_of(kept)
        return [len(things), worth_together(things), kept]

    def enough(self):
        # The fullest day is one on which a thing comes.
        return [max([places_taken(self.things, thing.comes) for thing in self.things], default=0)]


def answer_call(cupboard, call, numbers):
    if call == BEGINS:
        return cupboard.begins(numbers[0])
    if call == THING:
        return cupboard.thing(numbers[0], numbers[1], numbers[2])
    if call == CHECK:
        return cupboard.check(numbers[0])
    if call == BEST:
        return cupboard.best()
    if call == MOST:
        return cupboard.most()
    if call == PLAIN:
        return cupboard.plain()
    return cupboard.enough()


def answers(calls):
    cupboard = Cupboard()
    told = []
    at = 0
    while at < len(calls):
        call = calls[at]
        behind = at + 1 + NUMBERS_BEHIND[call]
        answer = answer_call(cupboard, call, calls[at + 1:behind])
        told.append(len(answer))
        told.extend(answer)
        at = behind
    return told
