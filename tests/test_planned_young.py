import itertools
import random
import unittest

from helper import HERD, ask_whole, born, drawn_books, full_book, gone, kin, last_whole, new, plan, planned


def in_the_book(calls):
    return len([call for call in calls if call[0] in (1, 2)])


class PlannedYoungTest(unittest.TestCase):
    def check(self, calls, young, draw):
        made = planned(*calls, plan(young))
        pairs = made.pairs()
        first = in_the_book(calls)
        draw.shuffle(pairs)
        births = [born(sire, dam, draw.randrange(2)) for sire, dam in pairs]
        numbers = range(first, first + young)
        others = list(itertools.permutations(numbers, 2))
        parents = []
        for sire, dam in pairs:
            parents.extend([kin(sire, sire), kin(dam, dam), kin(sire, dam), kin(sire, dam)])
        told = ask_whole(*calls, plan(young), *births, *[kin(a, b) for a, b in others], *parents)[len(calls) + 1:]
        self.assertEqual([part[0] for part in told[:young]], list(numbers))
        among = sum(out for answer, out in told[young:young + len(others)])
        less = sum(out for answer, out in told[young + len(others):])
        self.assertEqual(4 * among, made.akin - less, (calls, young))

    def test_one_pair(self):
        draw = random.Random(0)
        for young in range(1, 9):
            self.check([new(0), new(1)], young, draw)

    def test_one_young_one_is_akin_to_no_other(self):
        made = planned(new(0), new(1), born(0, 1, 1), plan(1))
        told = ask_whole(new(0), new(1), born(0, 1, 1), kin(0, 0), kin(1, 1), kin(0, 1))
        self.assertEqual(made.pairs(), [(0, 1)])
        self.assertEqual(made.akin, told[3][1] + told[4][1] + 2 * told[5][1])

    def test_the_book_is_just_full_then(self):
        draw = random.Random(1)
        for young in range(1, 9):
            self.check(full_book()[:24 - young], young, draw)

    def test_brother_and_sister(self):
        draw = random.Random(2)
        calls = [new(0), new(1), born(0, 1, 0), born(0, 1, 1), gone(0), gone(1)]
        for young in range(1, 9):
            self.check(calls, young, draw)

    def test_books_of_many_kinds(self):
        draw = random.Random(50)
        checked = 0
        for calls in drawn_books(draw, 60, most=16):
            if last_whole(*calls, plan(1)) == [-33]:
                continue
            for young in range(1, 9):
                self.check(calls, young, draw)
            checked += 1
        self.assertGreater(checked, 30)

    def test_generation_after_generation(self):
        # Born as planned, the parents let go, and planned again, till the book is full.
        draw = random.Random(52)
        calls = [new(0), new(0), new(1), new(1)]
        while in_the_book(calls) + 4 <= 24:
            self.check(calls, 4, draw)
            made = planned(*calls, plan(4))
            living = [number for number in range(in_the_book(calls)) if gone(number) not in calls]
            calls += [born(sire, dam, place % 2) for place, (sire, dam) in enumerate(made.pairs())]
            calls += [gone(number) for number in living]
            self.assertEqual(last_whole(*calls, HERD)[0], 4)
        self.assertEqual(in_the_book(calls), 24)


if __name__ == "__main__":
    unittest.main()
