import random
import unittest

from herdwhole.book import answers
from helper import MOST, START, ask, born, full_book, gone, joined, new, split

SOME_BOOK = [new(0), new(1), new(0), new(1), born(0, 1, 1), gone(2), gone(3)]
LOOKS = [born(0, 1, 1), born(2, 3, 0), born(5, 4, 0), *[gone(number) for number in range(9)], new(1), new(0)]

REFUSED = [
    (-22, new(2)),
    (-22, new(MOST)),
    (-22, born(0, 1, 2)),
    (-2, born(5, 1, 0)),
    (-2, born(0, MOST, 1)),
    (-13, born(1, 0, 0)),
    (-13, born(0, 0, 1)),
    (-2, gone(5)),
    (-2, gone(MOST)),
    (-11, gone(2)),
]


def told_in_words(calls):
    """The same answers, worked out in another way: from the whole past of each call."""
    told = []
    past = []
    for call in calls:
        told.append(told_of_one(past, call))
        past = [] if call == START else past + [(call, told[-1])]
    return told


def told_of_one(past, call):
    sexes = [made[-1] for made, answer in past if made[0] in (1, 2) and answer >= 0]
    went = [made[1] for made, answer in past if made[0] == 3 and answer == 0]
    if call[0] == 0:
        return 0
    if call[0] == 3:
        due = [(-2, call[1] >= len(sexes)), (-11, call[1] in went), (0, True)]
        return [code for code, holds in due if holds][0]
    parents = call[1:3] if call[0] == 2 else []
    known = [parent < len(sexes) for parent in parents]
    due = [
        (-22, call[-1] not in (0, 1)),
        (-2, not all(known)),
        (-13, all(known) and [sexes[parent] for parent in parents] not in ([], [0, 1])),
        (-28, len(sexes) >= 24),
        (len(sexes), True),
    ]
    return [code for code, holds in due if holds][0]


def drawn_calls(draw, count, start_share):
    def number():
        return draw.choice([draw.randrange(6), draw.randrange(26), draw.randrange(26), MOST - draw.randrange(3)])

    def female():
        return draw.choice([0, 0, 0, 1, 1, 1, 2, MOST])

    makers = [
        lambda: new(female()),
        lambda: born(number(), number(), female()),
        lambda: born(draw.randrange(4), draw.randrange(4), female()),
        lambda: gone(number()),
    ]
    calls = [START]
    while len(calls) < count:
        calls.append(START if draw.random() < start_share else draw.choice(makers)())
    return calls


class RefusalTest(unittest.TestCase):
    def test_all_is_as_it_was(self):
        plain = ask(*SOME_BOOK, *LOOKS)[len(SOME_BOOK):]
        for code, call in REFUSED:
            with self.subTest(call=call):
                told = ask(*SOME_BOOK, call, *LOOKS)[len(SOME_BOOK):]
                self.assertEqual(told, [code] + plain)

    def test_all_is_as_it_was_behind_many(self):
        plain = ask(*SOME_BOOK, *LOOKS)[len(SOME_BOOK):]
        codes = [code for code, call in REFUSED] * 5
        calls = [call for code, call in REFUSED] * 5
        self.assertEqual(ask(*SOME_BOOK, *calls, *LOOKS)[len(SOME_BOOK):], codes + plain)

    def test_all_is_as_it_was_with_a_full_book(self):
        refused = [(-28, new(0)), (-28, new(1)), (-28, born(0, 1, 0)), (-22, new(2)), (-13, born(1, 1, 0))]
        plain = ask(*full_book(), *LOOKS, gone(23), gone(24))[24:]
        for code, call in refused:
            with self.subTest(call=call):
                self.assertEqual(ask(*full_book(), call, *LOOKS, gone(23), gone(24))[24:], [code] + plain)

    def test_refused_calls_may_be_left_out(self):
        draw = random.Random(22)
        for _ in range(60):
            calls = drawn_calls(draw, 120, 0.02)
            told = split(answers(joined(calls)))
            kept = [(call, part) for call, part in zip(calls, told) if part[0] >= 0]
            again = split(answers(joined([call for call, part in kept])))
            self.assertEqual(again, [part for call, part in kept])

    def test_a_refusal_answers_one_number(self):
        for code, call in REFUSED:
            with self.subTest(call=call):
                self.assertEqual(answers(joined([START, *SOME_BOOK, call]))[-2:], [1, code])


class DrawnCallsTest(unittest.TestCase):
    def test_as_the_words_say(self):
        draw = random.Random(2)
        codes = {}
        for _ in range(150):
            calls = drawn_calls(draw, 100, draw.choice([0.0, 0.02, 0.1]))
            told = told_in_words(calls)
            self.assertEqual(answers(joined(calls)), joined([1, answer] for answer in told), calls)
            codes.update((answer, True) for answer in told)
        for code in (-28, -22, -13, -11, -2, 0, 23):
            self.assertIn(code, codes)


if __name__ == "__main__":
    unittest.main()
