"""All seven calls, one after another in many orders."""

import functools
import random
import unittest

from herdwhole.book import answers
from helper import (HERD, MOST, START, Book, ask_whole, born, drawn_book, full_book, gone, joined, kin, new, plan,
                    plan_in_words, split)

SOME_BOOK = [new(0), new(1), new(0), new(1), born(0, 1, 1), born(0, 1, 0), born(5, 4, 0), gone(2)]

# What tells of the book and leaves it as it is, with the first number of the answer.
LOOKS = [
    (0, kin(0, 0)),
    (0, kin(6, 2)),
    (-2, kin(7, 0)),
    (-2, kin(0, MOST)),
    (6, HERD),
    (0, plan(1)),
    (0, plan(8)),
    (-22, plan(0)),
    (-22, plan(9)),
    (-22, plan(MOST)),
]

# What would show that the book is another one: the calls that answer by it, then the looks once more.
BEHIND = [kin(6, 6), HERD, plan(7), gone(2), gone(7), gone(4), plan(3), born(5, 1, 1), born(7, 1, 0), kin(7, 6), HERD,
          new(1), plan(5), gone(0), gone(5), gone(6), plan(2), HERD, kin(0, 8)]


@functools.lru_cache(maxsize=None)
def book_of(made):
    return Book(made)


@functools.lru_cache(maxsize=None)
def plan_of(made, young):
    return plan_in_words(book_of(made), young)


def told_in_words(calls):
    """What all the calls answer, each in full, worked out in another way."""
    told = []
    made = ()
    for call in calls:
        answer = told_of_one(made, call)
        told.append(answer)
        if call == START:
            made = ()
        elif call[0] < 4 and answer[0] >= 0:
            made = made + (tuple(call),)
    return told


def told_of_one(made, call):
    sexes = [past[-1] for past in made if past[0] in (1, 2)]
    if call == START:
        return [0]
    if call[0] == 3:
        return [-2 if call[1] >= len(sexes) else -11 if (3, call[1]) in made else 0]
    if call[0] == 4:
        return [-2] if max(call[1:]) >= len(sexes) else [0, book_of(made).kin[call[1]][call[2]]]
    if call == HERD:
        return [len(book_of(made).living), book_of(made).herd_kin()]
    if call[0] == 6:
        return plan_of(made, call[1])
    return [told_of_new_one(sexes, call)]


def told_of_new_one(sexes, call):
    parents = call[1:-1]
    if call[-1] > 1:
        return -22
    if any(parent >= len(sexes) for parent in parents):
        return -2
    if parents and [sexes[parent] for parent in parents] != [0, 1]:
        return -13
    return -28 if len(sexes) == 24 else len(sexes)


def drawn_calls(draw, count, start_share):
    def number():
        return draw.choice([draw.randrange(8), draw.randrange(26), MOST - draw.randrange(3)])

    def female():
        return draw.choice([0] * 5 + [1] * 5 + [2, MOST])

    makers = [
        lambda: new(female()),
        lambda: born(number(), number(), female()),
        lambda: born(draw.randrange(6), draw.randrange(6), female()),
        lambda: gone(number()),
        lambda: kin(number(), number()),
        lambda: kin(draw.randrange(8), draw.randrange(8)),
        lambda: HERD,
        lambda: plan(draw.choice([0, 1, 2, 3, 4, 5, 6, 7, 8, 9, MOST])),
    ]
    calls = [START]
    while len(calls) < count:
        calls.append(START if draw.random() < start_share else draw.choice(makers)())
    return calls


class MixedTest(unittest.TestCase):
    def test_as_the_words_say(self):
        draw = random.Random(7)
        firsts = {}
        for _ in range(40):
            calls = drawn_calls(draw, draw.randrange(1, 90), draw.choice([0.0, 0.01, 0.1]))
            told = told_in_words(calls)
            self.assertEqual(split(answers(joined(calls))), told, calls)
            firsts.update(((call[0], part[0]), len(part)) for call, part in zip(calls, told))
        for call, code in ((1, -22), (2, -22), (2, -2), (2, -13), (3, -2), (3, -11), (4, -2), (6, -22), (6, -33)):
            self.assertEqual(firsts[call, code], 1)
        self.assertEqual([firsts[0, 0], firsts[3, 0], firsts[4, 0], firsts[5, 4], firsts[6, 0]], [1, 1, 2, 2, 35])

    def test_1000_calls(self):
        draw = random.Random(1000)
        calls = drawn_calls(draw, 1000, 0.02)
        self.assertLessEqual(len(joined(calls)), 4000)
        self.assertEqual(split(answers(joined(calls))), told_in_words(calls))

    def test_1000_calls_mostly_plans(self):
        calls = [START, *drawn_book(random.Random(8), 24, 6, 4, 0.0)]
        calls += [plan(1 + place % 8) for place in range(1000 - len(calls))]
        told = split(answers(joined(calls)))
        self.assertEqual(len(told), 1000)
        expected = [plan_of(tuple(tuple(call) for call in calls[1:25]), young) for young in range(1, 9)]
        for place, part in enumerate(told[25:]):
            self.assertEqual(part, expected[place % 8])

    def test_1000_calls_of_each_look(self):
        made = full_book()
        for look in (kin(3, 3), kin(24, 0), HERD, plan(0), plan(1)):
            calls = [START, *made, *[look] * 975]
            told = split(answers(joined(calls)))
            self.assertEqual(told[25:], [told_of_one(tuple(tuple(call) for call in made), look)] * 975)


class UnchangedTest(unittest.TestCase):
    def test_behind_each_look_all_is_as_it_was(self):
        plain = ask_whole(*SOME_BOOK, *BEHIND)[len(SOME_BOOK):]
        for code, look in LOOKS:
            with self.subTest(look=look):
                told = ask_whole(*SOME_BOOK, look, *BEHIND)[len(SOME_BOOK):]
                self.assertEqual(told[0][0], code)
                self.assertEqual(told[1:], plain)

    def test_behind_a_refused_plan_without_a_pair(self):
        for made in ([], [new(0)], [new(0), new(1), gone(0)]):
            plain = ask_whole(*made, *BEHIND)[len(made):]
            told = ask_whole(*made, plan(4), *BEHIND)[len(made):]
            self.assertEqual((told[0], told[1:]), ([-33], plain))

    def test_behind_many_looks_all_is_as_it_was(self):
        looks = [look for code, look in LOOKS] * 6
        plain = ask_whole(*SOME_BOOK, *BEHIND)[len(SOME_BOOK):]
        told = ask_whole(*SOME_BOOK, *looks, *BEHIND)[len(SOME_BOOK):]
        self.assertEqual(told[len(looks):], plain)
        self.assertEqual(told[:10] * 6, told[:len(looks)])

    def test_looks_may_be_left_out(self):
        draw = random.Random(77)
        for _ in range(60):
            calls = drawn_calls(draw, 120, 0.02)
            told = split(answers(joined(calls)))
            kept = [(call, part) for call, part in zip(calls, told) if call[0] < 4]
            again = split(answers(joined([call for call, part in kept])))
            self.assertEqual(again, [part for call, part in kept])

    def test_any_of_the_looks_may_be_left_out(self):
        draw = random.Random(78)
        for _ in range(60):
            calls = drawn_calls(draw, 120, 0.02)
            told = split(answers(joined(calls)))
            kept = [(call, part) for call, part in zip(calls, told) if call[0] < 4 or draw.random() < 0.5]
            again = split(answers(joined([call for call, part in kept])))
            self.assertEqual(again, [part for call, part in kept])

    def test_refused_calls_may_be_left_out(self):
        draw = random.Random(79)
        for _ in range(60):
            calls = drawn_calls(draw, 120, 0.02)
            told = split(answers(joined(calls)))
            kept = [(call, part) for call, part in zip(calls, told) if part[0] >= 0]
            again = split(answers(joined([call for call, part in kept])))
            self.assertEqual(again, [part for call, part in kept])

    def test_a_look_twice_tells_the_same(self):
        for code, look in LOOKS:
            told = ask_whole(*SOME_BOOK, look, look)
            self.assertEqual(told[-1], told[-2])


if __name__ == "__main__":
    unittest.main()
