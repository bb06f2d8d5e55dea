import random
import unittest

from helper import HALF, HERD, START, Book, ask_whole, born, drawn_books, full_book, gone, kin, last_whole, new

PAIR = [new(0), new(1)]


class HerdTest(unittest.TestCase):
    def test_empty_book(self):
        self.assertEqual(ask_whole(HERD), [[0, 0]])

    def test_one(self):
        self.assertEqual(last_whole(new(0), HERD), [1, HALF])
        self.assertEqual(last_whole(new(1), HERD), [1, HALF])

    def test_two_from_outside(self):
        self.assertEqual(last_whole(*PAIR, HERD), [2, 2 * HALF])

    def test_each_with_each_both_ways_round(self):
        # Itself: 3 halves; the young one with each parent: a quarter, both ways round.
        self.assertEqual(last_whole(*PAIR, born(0, 1, 0), HERD), [3, 3 * 2 ** 47 + 4 * 2 ** 46])

    def test_a_full_book(self):
        self.assertEqual(last_whole(*full_book(), HERD), [24, 24 * HALF])

    def test_a_full_book_of_kin(self):
        calls = [*PAIR, *[born(0, 1, 1)] * 22]
        akin = 24 * 2 ** 47 + 2 * (2 * 22 + 22 * 21 // 2) * 2 ** 46
        self.assertEqual(last_whole(*calls, HERD), [24, akin])

    def test_all_gone(self):
        self.assertEqual(last_whole(*PAIR, born(0, 1, 0), gone(1), gone(0), gone(2), HERD), [0, 0])

    def test_all_of_a_full_book_gone(self):
        self.assertEqual(last_whole(*full_book(), *[gone(number) for number in range(24)], HERD), [0, 0])

    def test_some_gone(self):
        calls = [*PAIR, born(0, 1, 0), born(0, 1, 1)]
        self.assertEqual(last_whole(*calls, gone(0), HERD), [3, 3 * 2 ** 47 + 6 * 2 ** 46])
        self.assertEqual(last_whole(*calls, gone(0), gone(1), HERD), [2, 2 * 2 ** 47 + 2 * 2 ** 46])
        self.assertEqual(last_whole(*calls, gone(2), gone(3), HERD), [2, 2 * 2 ** 47])

    def test_one_gone_already_counts_once(self):
        self.assertEqual(last_whole(*PAIR, gone(0), gone(0), HERD), [1, HALF])

    def test_young_of_parents_that_are_gone(self):
        calls = [*PAIR, gone(0), gone(1), born(0, 1, 0), born(0, 1, 1)]
        self.assertEqual(last_whole(*calls, HERD), [2, 2 * 2 ** 47 + 2 * 2 ** 46])

    def test_behind_each_call(self):
        calls = [new(0), HERD, new(1), HERD, born(0, 1, 0), HERD, gone(0), HERD, gone(1), HERD, gone(2), HERD]
        told = [part for call, part in zip(calls, ask_whole(*calls)) if call == HERD]
        counts = [1, 2, 3, 2, 1, 0]
        sums = [HALF, 2 * HALF, 5 * HALF, 3 * HALF, HALF, 0]
        self.assertEqual(told, [list(pair) for pair in zip(counts, sums)])

    def test_a_start_empties_it(self):
        self.assertEqual(ask_whole(*full_book(), START, HERD, new(0), HERD)[25:], [[0, 0], [0], [1, HALF]])

    def test_books_of_many_kinds(self):
        draw = random.Random(5)
        for calls in drawn_books(draw, 80):
            book = Book(calls)
            self.assertEqual(last_whole(*calls, HERD), [len(book.living), book.herd_kin()], calls)

    def test_the_sum_of_what_hb_kin_tells(self):
        draw = random.Random(55)
        for calls in drawn_books(draw, 20):
            living = Book(calls).living
            asked = [kin(a, b) for a in living for b in living]
            told = ask_whole(*calls, HERD, *asked)[len(calls):]
            self.assertEqual(told[0], [len(living), sum(out for answer, out in told[1:])])


if __name__ == "__main__":
    unittest.main()
