"""A cupboard, its things, and the calls about them."""

MOST_PLACES = 5
MOST_THINGS = 9
LAST_DAY = 365
MOST_WORTH = 1000

BEGINS = 0
THING = 1
CHECK = 2
BEST = 3

# By a call's number: how many whole numbers stand behind it.
NUMBERS_BEHIND = (1, 3, 1, 0)


class Thing:
    def __init__(self, comes, asked_for, worth):
        self.comes = comes
        self.asked_for = asked_for
        self.worth = worth


def places_taken(things, day):
    return len([thing for thing in things if thing.comes <= day < thing.asked_for])


def first_overfull_day(things, places):
    # More places than on the day before are taken only when a thing comes,
    # so no other day can be the first one.
    for day in sorted([thing.comes for thing in things]):
        if places_taken(things, day) > places:
            return day
    return None


def worth_together(things):
    return sum([thing.worth for thing in things])


class Cupboard:
    def __init__(self):
        self.places = 1
        self.things = []

    def things_of(self, chosen):
        return [thing for number, thing in enumerate(self.things) if (chosen >> number) & 1 == 1]

    def begins(self, places):
        if places < 1 or places > MOST_PLACES:
            return [-1]
        self.places = places
        self.things = []
        return [0]

    def thing(self, comes, asked_for, worth):
        if asked_for <= comes or asked_for > LAST_DAY or worth > MOST_WORTH:
            return [-1]
        if len(self.things) == MOST_THINGS:
            return [-5]
        self.things.append(Thing(comes, asked_for, worth))
        return [len(self.things) - 1]

    def check(self, chosen):
        if chosen >> len(self.things) != 0:
            return [-1]
        things = self.things_of(chosen)
        day = first_overfull_day(things, self.places)
        if day is not None:
            return [-6, day, places_taken(things, day)]
        return [worth_together(things), len(things)]

    def best(self):
        best_rank = (0, 0)
        best_set = 0
        as_good = 0
        # The sets are walked from the least number on, and only a better one
        # takes the place of the one found: so the least of several is told.
        for chosen in range(1 << len(self.things)):
            things = self.things_of(chosen)
            rank = (worth_together(things), len(things))
            if rank < best_rank or first_overfull_day(things, self.places) is not None:
                continue
            if rank > best_rank:
                best_rank = rank
                best_set = chosen
                as_good = 0
            as_good += 1
        return [best_rank[0], best_rank[1], as_good, best_set]


def answer_call(cupboard, call, numbers):
    if call == BEGINS:
        return cupboard.begins(numbers[0])
    if call == THING:
        return cupboard.thing(numbers[0], numbers[1], numbers[2])
    if call == CHECK:
        return cupboard.check(numbers[0])
    return cupboard.best()


def answers(calls):
    cupboard = Cupboard()
    told = []
    at = 0
    while at < len(calls):
        call = calls[at]
        behind = at + 1 + NUMBERS_BEHIND[call]
        answer = answer_call(cupboard, call, calls[at + 1:behind])
        told.append(len(answer))
        told.extend(answer)
        at = behind
    return told
