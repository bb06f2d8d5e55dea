import random
import unittest

from helper import (Book, born, drawn_book, drawn_books, filled, full_book, gone, last_whole, least_mating, new, plan,
                    planned)

MALE, FEMALE = new(0), new(1)

# A son and a daughter of each of two pairs, 4 and 6, 5 and 7; the parents are gone.
FAMILIES = [MALE, FEMALE, MALE, FEMALE, born(0, 1, 0), born(2, 3, 0), born(0, 1, 1), born(2, 3, 1),
            *[gone(number) for number in range(4)]]


def cost_of_least_pairs_first(table, made):
    """What it costs if the least akin pair has all the young it can, then the next, and so on."""
    males = {male: count for male, count in zip(made.males, made.of_males) if count}
    females = {female: count for female, count in zip(made.females, made.of_females) if count}
    cost = 0
    for akin, male, female in sorted((table[male][female], male, female) for male in males for female in females):
        count = min(males[male], females[female])
        males[male] -= count
        females[female] -= count
        cost += count * akin
    return cost


class MatingTest(unittest.TestCase):
    def test_one_pair(self):
        for young in range(1, 9):
            made = planned(MALE, FEMALE, plan(young))
            self.assertEqual(made.mating, [[young, 0, 0, 0], [0] * 4, [0] * 4, [0] * 4])
            self.assertEqual(made.cost, 0)

    def test_sire_and_daughter(self):
        made = planned(MALE, FEMALE, born(0, 1, 1), gone(1), plan(8))
        self.assertEqual(made.mating, [[8, 0, 0, 0], [0] * 4, [0] * 4, [0] * 4])
        self.assertEqual(made.cost, 8 * 2 ** 46)

    def test_brothers_and_sisters_are_not_mated(self):
        for young in (2, 4, 6, 8):
            made = planned(*FAMILIES, plan(young))
            self.assertEqual((made.males, made.females), ([4, 5, 255, 255], [6, 7, 255, 255]))
            half = young // 2
            self.assertEqual(made.mating, [[0, half, 0, 0], [half, 0, 0, 0], [0] * 4, [0] * 4])
            self.assertEqual(made.cost, 0)

    def test_of_like_ones_the_first(self):
        # Nobody is akin to anybody: each male in its turn has all it can with the first females.
        rows = {
            1: [[1, 0, 0, 0], [0, 0, 0, 0], [0, 0, 0, 0], [0, 0, 0, 0]],
            4: [[1, 0, 0, 0], [0, 1, 0, 0], [0, 0, 1, 0], [0, 0, 0, 1]],
            5: [[2, 0, 0, 0], [0, 1, 0, 0], [0, 0, 1, 0], [0, 0, 0, 1]],
            8: [[2, 0, 0, 0], [0, 2, 0, 0], [0, 0, 2, 0], [0, 0, 0, 2]],
        }
        for young, mating in rows.items():
            made = planned(*full_book(), plan(young))
            self.assertEqual((made.mating, made.cost), (mating, 0))

    def test_of_like_ones_the_first_with_unlike_counts(self):
        made = planned(*[MALE] * 2, *[FEMALE] * 3, plan(8))
        self.assertEqual((made.of_males, made.of_females), ([4, 4, 0, 0], [3, 3, 2, 0]))
        self.assertEqual(made.mating, [[3, 1, 0, 0], [0, 2, 2, 0], [0] * 4, [0] * 4])
        made = planned(*[MALE] * 3, *[FEMALE] * 2, plan(8))
        self.assertEqual((made.of_males, made.of_females), ([3, 3, 2, 0], [4, 4, 0, 0]))
        self.assertEqual(made.mating, [[3, 0, 0, 0], [1, 2, 0, 0], [0, 2, 0, 0], [0] * 4])

    def test_four_for_each_male(self):
        made = planned(*[MALE] * 4, FEMALE, plan(8))
        self.assertEqual(made.mating, [[2, 0, 0, 0]] * 4)
        made = planned(MALE, *[FEMALE] * 4, plan(8))
        self.assertEqual(made.mating, [[2, 2, 2, 2], [0] * 4, [0] * 4, [0] * 4])

    def test_less_than_the_least_pairs_first(self):
        draw = random.Random(7)
        less = 0
        for _ in range(60):
            calls = drawn_book(draw, 20, 4, 4, 0.2)
            if last_whole(*calls, plan(8)) == [-33]:
                continue
            made = planned(*calls, plan(8))
            by_pairs = cost_of_least_pairs_first(Book(calls).kin, made)
            self.assertLessEqual(made.cost, by_pairs)
            less += made.cost < by_pairs
        self.assertGreater(less, 5)

    def check_all(self, calls, youngs):
        book = Book(calls)
        males, females = book.breeders_of(0), book.breeders_of(1)
        for young in youngs:
            made = planned(*calls, plan(young))
            of_males, of_females = made.of_males[:len(males)], made.of_females[:len(females)]
            cost, rows = least_mating(book.kin, males, females, of_males, of_females)
            self.assertEqual(made.mating, filled([filled(row, 0) for row in rows], [0] * 4), (calls, young))
            self.assertEqual(made.cost, cost, (calls, young))

    def test_against_all_matings(self):
        draw = random.Random(77)
        checked = 0
        for calls in drawn_books(draw, 90):
            if last_whole(*calls, plan(1)) != [-33]:
                self.check_all(calls, range(1, 9))
                checked += 1
        self.assertGreater(checked, 45)

    def test_against_all_matings_with_four_of_each(self):
        draw = random.Random(777)
        checked = 0
        while checked < 25:
            calls = drawn_book(draw, 24, draw.choice([2, 3, 4, 8]), draw.choice([2, 3, 4]), 0.2)
            book = Book(calls)
            if len(book.living_of(0)) > 3 and len(book.living_of(1)) > 3:
                self.check_all(calls, range(1, 9))
                checked += 1

    def test_each_has_just_as_many_as_it_shall(self):
        draw = random.Random(17)
        for calls in drawn_books(draw, 80):
            for young in range(1, 9):
                if last_whole(*calls, plan(young)) == [-33]:
                    continue
                made = planned(*calls, plan(young))
                self.assertEqual([sum(row) for row in made.mating], made.of_males)
                self.assertEqual([sum(column) for column in zip(*made.mating)], made.of_females)
                self.assertEqual(len(made.pairs()), young)

    def test_costs_no_more_than_by_chance(self):
        draw = random.Random(71)
        for calls in drawn_books(draw, 60):
            for young in (3, 8):
                if last_whole(*calls, plan(young)) == [-33]:
                    continue
                made = planned(*calls, plan(young))
                table = Book(calls).kin
                having = [pair for pair in zip(made.males, made.of_males) if pair[1]]
                by_chance = sum(count * times * table[male][female] for male, count in having
                                for female, times in zip(made.females, made.of_females) if times)
                self.assertLessEqual(young * made.cost, by_chance)

    def test_cost_is_what_hb_kin_tells(self):
        draw = random.Random(19)
        for calls in drawn_books(draw, 40):
            if last_whole(*calls, plan(6)) == [-33]:
                continue
            made = planned(*calls, plan(6))
            told = [last_whole(*calls, [4, sire, dam]) for sire, dam in made.pairs()]
            self.assertEqual(made.cost, sum(out for answer, out in told))


if __name__ == "__main__":
    unittest.main()
