import random
import unittest

from helper import (HALF, Book, akin_by, born, drawn_book, drawn_books, filled, full_book, gone, last_whole,
                    least_share, new, plan, planned, shares_among)

MALE, FEMALE = new(0), new(1)


def outside(males, females):
    return [MALE] * males + [FEMALE] * females


def has_both(book):
    return bool(book.living_of(0)) and bool(book.living_of(1))


class ShareTest(unittest.TestCase):
    def check(self, calls, young, of_males, of_females):
        made = planned(*calls, plan(young))
        self.assertEqual((made.of_males, made.of_females), (of_males, of_females))

    def test_one_pair_has_all(self):
        for young in range(1, 9):
            made = planned(MALE, FEMALE, plan(young))
            self.assertEqual((made.of_males, made.of_females), ([young, 0, 0, 0], [young, 0, 0, 0]))
            self.assertEqual(made.akin, 2 * young * young * HALF)

    def test_0_for_those_that_there_are_not(self):
        self.check(outside(1, 3), 3, [3, 0, 0, 0], [1, 1, 1, 0])
        self.check(outside(3, 1), 3, [1, 1, 1, 0], [3, 0, 0, 0])
        self.check(outside(2, 2), 8, [4, 4, 0, 0], [4, 4, 0, 0])

    def test_alike_akin_evenly_and_the_first_have_more(self):
        even = {1: [1, 0, 0, 0], 2: [1, 1, 0, 0], 3: [1, 1, 1, 0], 4: [1, 1, 1, 1], 5: [2, 1, 1, 1], 6: [2, 2, 1, 1],
                7: [2, 2, 2, 1], 8: [2, 2, 2, 2]}
        for young, share in even.items():
            with self.subTest(young=young):
                self.check(full_book(), young, share, share)

    def test_alike_akin_evenly_for_each_number_of_breeders(self):
        for males in range(1, 5):
            for females in range(1, 5):
                for young in range(1, 9):
                    made = planned(*outside(males, females), plan(young))
                    for count, share in ((males, made.of_males), (females, made.of_females)):
                        more = young % count
                        expected = [young // count + 1] * more + [young // count] * (count - more)
                        self.assertEqual(share, filled(expected, 0))

    def test_sisters_and_one_from_outside(self):
        # 2 and 3 are sisters; 5 is no kin of theirs.
        calls = [MALE, FEMALE, born(0, 1, 1), born(0, 1, 1), gone(0), gone(1), MALE, FEMALE]
        made = planned(*calls, plan(8))
        self.assertEqual((made.males, made.females), ([4, 255, 255, 255], [2, 3, 5, 255]))
        # By hand, in halves: 3, 2, 3 is 9 + 4 + 9 and twice 3 by 2 quarters, 28 together; so is 2, 2, 4, and 2, 3, 3.
        self.assertEqual(made.of_females, [3, 2, 3, 0])
        self.assertEqual(made.akin, 64 * HALF + 28 * HALF)
        table = Book(calls).kin
        for like in ((8, 2, 2, 4), (8, 2, 3, 3)):
            self.assertEqual(akin_by(table, [4, 2, 3, 5], like), made.akin)

    def test_the_males_stand_ahead_of_the_females(self):
        # Two males and two females, each male akin to one female only: by (1, 0) (0, 1) all are as little akin as by
        # (0, 1) (1, 0), and the first male's 1 decides.
        calls = [MALE, FEMALE, MALE, FEMALE, born(0, 1, 0), born(0, 1, 1), born(2, 3, 0), born(2, 3, 1),
                 *[gone(number) for number in range(4)]]
        made = planned(*calls, plan(1))
        self.assertEqual((made.males, made.females), ([4, 6, 255, 255], [5, 7, 255, 255]))
        self.assertEqual((made.of_males, made.of_females), ([1, 0, 0, 0], [0, 1, 0, 0]))
        self.assertEqual(made.akin, 2 * HALF)

    def test_a_male_with_a_female_counts_both_ways_round(self):
        # One male, its daughter and one inbred female from elsewhere: the daughter costs twice a quarter.
        calls = [MALE, FEMALE, born(0, 1, 1), gone(1), MALE, FEMALE, born(3, 4, 1), born(3, 5, 1),
                 gone(3), gone(4), gone(5)]
        made = planned(*calls, plan(1))
        self.assertEqual((made.males, made.females), ([0, 255, 255, 255], [2, 6, 255, 255]))
        self.assertEqual(made.of_females, [0, 1, 0, 0])
        self.assertEqual(made.akin, HALF + HALF + HALF // 4)

    def test_an_inbred_one_has_fewer(self):
        calls = [MALE, FEMALE, born(0, 1, 1), born(0, 2, 1), born(0, 3, 1), gone(0), gone(1), gone(2), gone(3), MALE,
                 FEMALE]
        made = planned(*calls, plan(2))
        self.assertEqual(made.females, [4, 6, 255, 255])
        self.assertEqual(made.of_females, [1, 1, 0, 0])
        self.assertEqual(planned(*calls, plan(1)).of_females, [0, 1, 0, 0])
        self.assertEqual(planned(*calls, plan(8)).of_females, [3, 5, 0, 0])

    def test_no_more_than_one_apart_if_all_are_akin_alike(self):
        # Four brothers, and four sisters of other parents.
        calls = [MALE, FEMALE, MALE, FEMALE, *[born(0, 1, 0)] * 4, *[born(2, 3, 1)] * 4, *[gone(n) for n in range(4)]]
        for young in range(1, 9):
            made = planned(*calls, plan(young))
            self.assertEqual((made.males, made.females), ([4, 5, 6, 7], [8, 9, 10, 11]))
            self.assertLessEqual(max(made.of_males) - min(made.of_males), 1)
            self.assertLessEqual(max(made.of_females) - min(made.of_females), 1)
            self.assertEqual(made.of_males, sorted(made.of_males, reverse=True))


class AllSharesTest(unittest.TestCase):
    def check_all(self, calls, youngs):
        book = Book(calls)
        males, females = book.breeders_of(0), book.breeders_of(1)
        for young in youngs:
            made = planned(*calls, plan(young))
            akin, share = least_share(book.kin, males, females, young)
            self.assertEqual(made.of_males, filled(share[:len(males)], 0), (calls, young))
            self.assertEqual(made.of_females, filled(share[len(males):], 0), (calls, young))
            self.assertEqual(made.akin, akin, (calls, young))

    def test_all_shares_are_gone_through(self):
        # Of the ways themselves: each once, none left out.
        for count, young in ((1, 8), (2, 8), (3, 5), (4, 8)):
            ways = shares_among(young, count)
            self.assertEqual(len(set(ways)), len(ways))
            self.assertTrue(all(len(way) == count and sum(way) == young and min(way) >= 0 for way in ways))
        self.assertEqual(len(shares_among(8, 4)), 165)

    def test_books_of_many_kinds_each_young(self):
        draw = random.Random(44)
        checked = 0
        for calls in drawn_books(draw, 60):
            if has_both(Book(calls)):
                self.check_all(calls, range(1, 9))
                checked += 1
        self.assertGreater(checked, 30)

    def test_four_of_each_each_young(self):
        draw = random.Random(48)
        checked = 0
        while checked < 12:
            calls = drawn_book(draw, 24, draw.choice([2, 3, 4, 8]), draw.choice([2, 3, 4]), 0.3)
            book = Book(calls)
            if len(book.living_of(0)) > 3 and len(book.living_of(1)) > 3:
                self.check_all(calls, range(1, 9))
                checked += 1

    def test_books_with_many_like_shares(self):
        # Brothers and sisters of a few pairs: how akin they are comes in few steps, so many shares are alike.
        draw = random.Random(84)
        for _ in range(12):
            calls = [MALE, FEMALE, MALE, FEMALE]
            for number in range(draw.randrange(3, 12)):
                calls.append(born(draw.choice([0, 2]), draw.choice([1, 3]), draw.randrange(2)))
            calls.extend(gone(number) for number in draw.sample(range(4), draw.randrange(5)))
            if has_both(Book(calls)):
                self.check_all(calls, (1, 2, 3, 5, 7))

    def test_all_from_outside(self):
        for males in range(1, 5):
            for females in range(1, 5):
                self.check_all(outside(males, females), (1, 2, 3, 4, 5))

    def test_a_share_has_so_many_of_each_sex(self):
        draw = random.Random(444)
        for calls in drawn_books(draw, 60):
            for young in range(1, 9):
                answer = last_whole(*calls, plan(young))
                if answer != [-33]:
                    self.assertEqual((sum(answer[9:13]), sum(answer[13:17])), (young, young))


if __name__ == "__main__":
    unittest.main()
