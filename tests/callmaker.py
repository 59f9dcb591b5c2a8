"""Writes calls in numbers and reads what is answered, for the tests."""

from erasedall.desk import answers

LARGEST = 9223372036854775807

PLAIN = 0
COUNTED = 1

ABSENT = -2
DENIED = -13
WRONG = -22
FULL = -28

NO_PURPOSES = 1
ALL_TAKEN_BACK = 2
WAS_OVER = 3

ER_WHY = 8


def start(many):
    return [0, many]


def give(person, purposes, until=100):
    return [1, person, purposes, until]


def make(kind, purposes, *of):
    return [2, kind, purposes, len(of), *of]


def use(item, purpose):
    return [3, item, purpose]


def back(item, purposes):
    return [4, item, purposes]


def person(p):
    return [5, p]


def days(n):
    return [6, n]


def of(p):
    return [7, p]


def why(item):
    return [ER_WHY, item]


def line(calls):
    return [number for call in calls for number in call]


def read(call, answer):
    """The number that's answered; of er_why, where it isn't refused, all four."""
    if answer[0] == 0:
        assert len(answer) == 2, (call, answer)
        assert call[0] != ER_WHY or answer[1] < 0, (call, answer)
        return answer[1]
    assert call[0] == ER_WHY and answer[0] == 1 and len(answer) == 5, (call, answer)
    return tuple(answer[1:])


def run(*calls):
    """The answer of each call, once each is seen to be in the form that it must have."""
    told = answers(line(calls))
    found = []
    begin = 0
    for call in calls:
        end = begin + 1 + told[begin]
        found.append(read(call, told[begin + 1:end]))
        begin = end
    assert begin == len(told), told
    return found


def last(*calls):
    return run(*calls)[-1]


def tail(count, *calls):
    """The answers of the last calls, so many of them."""
    return run(*calls)[-count:]
