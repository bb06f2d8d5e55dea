import unittest

from helper import MOST, START, ask_whole, born, full_book, gone, last_whole, new, plan

PAIR = [new(0), new(1)]
WRONG_YOUNG = (0, 9, 10, 16, 255, 256, 257, 2 ** 31 - 1, 2 ** 31, 2 ** 32 - 8, MOST - 1, MOST)


class YoungTest(unittest.TestCase):
    def test_not_1_to_8(self):
        for young in WRONG_YOUNG:
            with self.subTest(young=young):
                self.assertEqual(last_whole(*PAIR, plan(young)), [-22])
                self.assertEqual(last_whole(*full_book(), plan(young)), [-22])

    def test_1_to_8(self):
        for young in range(1, 9):
            with self.subTest(young=young):
                self.assertEqual(last_whole(*PAIR, plan(young))[0], 0)
                self.assertEqual(last_whole(*full_book(), plan(young))[0], 0)


class NoPairTest(unittest.TestCase):
    def check(self, *calls):
        for young in range(1, 9):
            with self.subTest(young=young):
                self.assertEqual(last_whole(*calls, plan(young)), [-33])

    def test_empty_book(self):
        self.check()

    def test_no_male(self):
        self.check(new(1))
        self.check(*[new(1)] * 24)

    def test_no_female(self):
        self.check(new(0))
        self.check(*[new(0)] * 24)

    def test_the_only_male_is_gone(self):
        self.check(*PAIR, new(1), gone(0))

    def test_the_only_female_is_gone(self):
        self.check(*PAIR, new(0), gone(1))

    def test_all_males_are_gone(self):
        self.check(*full_book(), *[gone(number) for number in range(0, 24, 2)])

    def test_all_females_are_gone(self):
        self.check(*full_book(), *[gone(number) for number in range(1, 24, 2)])

    def test_all_are_gone(self):
        self.check(*PAIR, gone(0), gone(1))
        self.check(*full_book(), *[gone(number) for number in range(24)])

    def test_the_only_one_is_gone(self):
        self.check(new(0), gone(0))
        self.check(new(1), gone(0))

    def test_behind_a_start(self):
        self.check(*full_book(), START)
        self.check(*full_book(), START, new(0))

    def test_till_there_are_both(self):
        calls = [plan(1), new(0), plan(1), new(1), plan(1), gone(0), plan(1), born(0, 1, 0), plan(1), gone(1), plan(1)]
        told = [part[0] for call, part in zip(calls, ask_whole(*calls)) if call == plan(1)]
        self.assertEqual(told, [-33, -33, 0, -33, 0, -33])


class BothTest(unittest.TestCase):
    def test_22_ahead_of_33(self):
        books = ([], [new(0)], [new(1)], [*PAIR, gone(0)], [*PAIR, gone(1)], [*PAIR, gone(0), gone(1)])
        for calls in books:
            for young in WRONG_YOUNG:
                with self.subTest(calls=calls, young=young):
                    self.assertEqual(last_whole(*calls, plan(young)), [-22])


if __name__ == "__main__":
    unittest.main()
