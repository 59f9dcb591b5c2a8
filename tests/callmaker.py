"""Writes calls in numbers and reads what is answered, for the tests."""

from erasedall.desk import answers

LARGEST = 9223372036854775807

PLAIN = 0
COUNTED = 1

ABSENT = -2
DENIED = -13
WRONG = -22
FULL = -28


def start(many):
    return [0, many]


def give(person, purposes, until=100):
    return [1, person, purposes, until]


def make(kind, purposes, *of):
    return [2, kind, purposes, len(of), *of]


def use(item, purpose):
    return [3, item, purpose]


def back(item, purposes):
    return [4, item, purposes]


def line(calls):
    return [number for call in calls for number in call]


def run(*calls):
    """The answer of each call, once all are seen to be in the form that has one number."""
    told = answers(line(calls))
    assert len(told) == 3 * len(calls), told
    assert told[0::3] == [2] * len(calls), told
    assert told[1::3] == [0] * len(calls), told
    return told[2::3]


def last(*calls):
    return run(*calls)[-1]


def tail(count, *calls):
    """The answers of the last calls, so many of them."""
    return run(*calls)[-count:]
