import random
import unittest

from helper import Book, born, drawn_books, full_book, gone, last_whole, new, plan, planned

MALE, FEMALE = new(0), new(1)


def chosen(*calls):
    """The breeders of a plan, the males and the females; for how many young is no matter."""
    found = {}
    for young in range(1, 9):
        made = planned(*calls, plan(young))
        found[tuple(made.males), tuple(made.females)] = True
    if len(found) != 1:
        raise AssertionError(f"not the same breeders for all numbers of young: {found!r}")
    males, females = list(found)[0]
    return list(males), list(females)


def other_sex(calls):
    """The same book with males and females changed about."""
    changed = []
    for call in calls:
        if call[0] == 1:
            call = new(1 - call[1])
        elif call[0] == 2:
            call = born(call[2], call[1], 1 - call[3])
        changed.append(call)
    return changed


class BreedersTest(unittest.TestCase):
    def check(self, calls, males, females):
        self.assertEqual(chosen(*calls), (males, females))
        self.assertEqual(chosen(*other_sex(calls)), (females, males))

    def test_one_of_each(self):
        self.check([MALE, FEMALE], [0, 255, 255, 255], [1, 255, 255, 255])
        self.check([FEMALE, MALE], [1, 255, 255, 255], [0, 255, 255, 255])

    def test_one_to_four_of_each(self):
        for males in range(1, 5):
            for females in range(1, 5):
                with self.subTest(males=males, females=females):
                    calls = [MALE] * males + [FEMALE] * females
                    self.check(calls, [*range(males), *[255] * (4 - males)],
                               [*range(males, males + females), *[255] * (4 - females)])

    def test_255_behind_the_last(self):
        self.check([FEMALE, MALE, FEMALE, FEMALE, MALE], [1, 4, 255, 255], [0, 2, 3, 255])

    def test_no_more_than_four(self):
        self.check([MALE] * 5 + [FEMALE], [0, 1, 2, 3], [5, 255, 255, 255])
        self.check([MALE] * 12 + [FEMALE] * 12, [0, 1, 2, 3], [12, 13, 14, 15])

    def test_of_like_ones_the_lesser_number(self):
        self.assertEqual(chosen(*full_book()), ([0, 2, 4, 6], [1, 3, 5, 7]))
        # 0 and 1 have young, so the first four of the others are less akin.
        self.check([MALE, FEMALE, born(0, 1, 0), *[MALE] * 6], [3, 4, 5, 6], [1, 255, 255, 255])

    def test_the_lesser_number_of_like_ones_for_the_last_place(self):
        # The sons 2 to 6 are all alike akin to the herd, and more so than the three from outside behind them.
        calls = [MALE, FEMALE, *[born(0, 1, 0)] * 5, *[MALE] * 3, gone(0), gone(1), FEMALE]
        self.check(calls, [2, 7, 8, 9], [10, 255, 255, 255])

    def test_least_akin_are_not_the_first_four(self):
        calls = [MALE, FEMALE, *[born(0, 1, 0)] * 4, *[MALE] * 4]
        self.check(calls, [6, 7, 8, 9], [1, 255, 255, 255])

    def test_least_akin_stand_here_and_there(self):
        calls = [MALE, FEMALE, born(0, 1, 0), MALE, born(0, 1, 0), MALE, born(0, 1, 0), MALE, born(0, 1, 0), MALE]
        self.check(calls, [3, 5, 7, 9], [1, 255, 255, 255])

    def test_they_stand_by_their_numbers_not_by_how_akin(self):
        # The later a male stands the less it is akin: 0 has four young, 3 three, 5 two, 7 one, 9 none.
        calls = [MALE, FEMALE, FEMALE, MALE, FEMALE, MALE, FEMALE, MALE, FEMALE, MALE]
        calls += [born(0, 1, 1)] * 4 + [born(3, 2, 1)] * 3 + [born(5, 4, 1)] * 2 + [born(7, 6, 1)]
        book = Book(calls)
        self.assertEqual(sorted([0, 3, 5, 7, 9], key=book.kin_to_herd), [9, 7, 5, 3, 0])
        self.assertEqual(chosen(*calls)[0], [3, 5, 7, 9])

    def test_itself_counts(self):
        # 3 is inbred, so it is more akin to itself; without that it would be no more akin than the others are.
        calls = [MALE, FEMALE, born(0, 1, 1), born(0, 2, 0), gone(0), gone(1), gone(2), *[MALE] * 4, FEMALE]
        self.check(calls, [4, 5, 6, 7], [8, 255, 255, 255])

    def test_females_count_for_how_akin_a_male_is(self):
        calls = [MALE, FEMALE, born(0, 1, 1), gone(1), *[MALE] * 4]
        self.check(calls, [3, 4, 5, 6], [2, 255, 255, 255])

    def test_those_that_are_gone_are_not_chosen(self):
        self.check([*[MALE] * 5, FEMALE, gone(0)], [1, 2, 3, 4], [5, 255, 255, 255])
        self.check([*[MALE] * 6, *[FEMALE] * 6, gone(1), gone(3), gone(5), gone(6), gone(7), gone(8), gone(11)],
                   [0, 2, 4, 255], [9, 10, 255, 255])

    def test_those_that_are_gone_do_not_count_for_how_akin(self):
        # 0 has four daughters that are gone, 10 one that lives.
        calls = [MALE, FEMALE, *[born(0, 1, 1)] * 4, gone(2), gone(3), gone(4), gone(5), gone(1),
                 *[MALE] * 3, FEMALE, MALE, born(10, 9, 1), gone(9)]
        book = Book(calls)
        self.assertEqual(book.living, [0, 6, 7, 8, 10, 11])
        self.check(calls, [0, 6, 7, 8], [11, 255, 255, 255])

    def test_one_that_went_makes_room(self):
        calls = [*[MALE] * 6, FEMALE]
        self.assertEqual(chosen(*calls)[0], [0, 1, 2, 3])
        self.assertEqual(chosen(*calls, gone(2))[0], [0, 1, 3, 4])
        self.assertEqual(chosen(*calls, gone(2), gone(0), gone(5))[0], [1, 3, 4, 255])

    def test_books_of_many_kinds(self):
        draw = random.Random(4)
        kinds = {}
        for calls in drawn_books(draw, 250):
            book = Book(calls)
            males, females = book.breeders_of(0), book.breeders_of(1)
            if not males or not females:
                self.assertEqual(last_whole(*calls, plan(1)), [-33])
                continue
            made = planned(*calls, plan(1))
            self.assertEqual(made.males, males + [255] * (4 - len(males)), calls)
            self.assertEqual(made.females, females + [255] * (4 - len(females)), calls)
            kinds[len(males), len(females), males == book.living_of(0)[:4], females == book.living_of(1)[:4]] = True
        for males in range(1, 5):
            for females in range(1, 5):
                self.assertIn((males, females, True, True), kinds)
        self.assertIn((4, 4, False, False), kinds)


if __name__ == "__main__":
    unittest.main()
