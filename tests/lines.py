"""Makes lists of calls for the tests and splits what is answered call by call."""

from cupboardkept.cupboard import answers

LARGEST = 4294967295

BEST = [3]
MOST = [4]
PLAIN = [5]
ENOUGH = [6]


def begins(places):
    return [0, places]


def thing(comes, asked_for, worth):
    return [1, comes, asked_for, worth]


def check(chosen):
    return [2, chosen]


def line(*calls):
    return [number for call in calls for number in call]


def split(told):
    parts = []
    at = 0
    while at < len(told):
        end = at + 1 + told[at]
        if end > len(told):
            raise AssertionError(f"a count of {told[at]} at {at}, but {len(told)} numbers in all")
        parts.append(told[at + 1:end])
        at = end
    return parts


def ask(*calls):
    return split(answers(line(*calls)))


def last(*calls):
    return ask(*calls)[-1]
