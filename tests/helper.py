"""Writes calls as they stand in a list, and tells answers call by call."""

from sixteenbits.machine import answers

MEMORY = 2 ** 24
GREATEST = 4294967295

BEGIN = [0, 0, 0]


def load(at, data):
    if not data:
        return load_without_list(at, 0)
    return [1, 2, at, len(data), 1, len(data)] + list(data)


def load_without_list(at, n):
    return [1, 2, at, n, 0]


def look(at, n):
    return [2, 2, at, n, 0]


def ask(k):
    return [3, 1, k, 0]


def joined(*calls):
    return [number for call in calls for number in call]


def split(told):
    """The answers, one list a call, out of what answers() gives back."""
    each = []
    at = 0
    while at < len(told):
        behind = at + 1 + told[at]
        each.append(told[at + 1:behind])
        at = behind
    return each


def same(told, asked):
    """Long lists are told apart without the comparison that unittest prints, which takes minutes for them."""
    if told != asked:
        raise AssertionError("long lists differ")


def told_by(*calls):
    """What each of the calls answers behind a cpu_begin, whose own answer is left out."""
    return split(answers(joined(BEGIN, *calls)))[1:]
