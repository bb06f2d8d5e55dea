"""Calls written as words, and answers taken apart, for the tests."""

from herdwhole.book import answers

MOST = 4294967295

START = [0]


def new(female):
    return [1, female]


def born(sire, dam, female):
    return [2, sire, dam, female]


def gone(animal):
    return [3, animal]


def joined(calls):
    row = []
    for call in calls:
        row.extend(call)
    return row


def split(told):
    parts = []
    place = 0
    while place < len(told):
        count = told[place]
        part = told[place + 1:place + 1 + count]
        if count < 1 or len(part) != count:
            raise AssertionError(f"the counts do not fit: {told!r}")
        parts.append(part)
        place += 1 + count
    return parts


def ask(*calls):
    """What each of the calls answers, the first number of each; one start stands ahead of them."""
    parts = split(answers(joined([START, *calls])))
    if len(parts) != 1 + len(calls) or parts[0] != [0]:
        raise AssertionError(f"not an answer a call: {parts!r}")
    return [part[0] for part in parts[1:]]


def last(*calls):
    return ask(*calls)[-1]


def full_book():
    """24 animals from outside: those with even numbers are male, those with odd ones female."""
    return [new(number % 2) for number in range(24)]
