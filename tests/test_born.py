import unittest

from helper import MOST, ask, born, full_book, gone, last, new

PAIR = [new(0), new(1)]
FAR_NUMBERS = (3, 23, 24, 25, 254, 255, 256, 2 ** 31 - 1, 2 ** 31, MOST - 1, MOST)


class BornTest(unittest.TestCase):
    def test_number_of_the_young_one(self):
        self.assertEqual(ask(*PAIR, born(0, 1, 0)), [0, 1, 2])
        self.assertEqual(ask(*PAIR, born(0, 1, 1)), [0, 1, 2])

    def test_numbers_go_on_with_those_from_outside(self):
        self.assertEqual(ask(*PAIR, born(0, 1, 0), new(0), born(3, 1, 1)), [0, 1, 2, 3, 4])

    def test_sire_may_have_the_greater_number(self):
        self.assertEqual(ask(new(1), new(0), born(1, 0, 0)), [0, 1, 2])

    def test_it_lives(self):
        self.assertEqual(ask(*PAIR, born(0, 1, 0), gone(2), gone(2))[3:], [0, -11])

    def test_it_has_the_sex_that_was_told(self):
        self.assertEqual(ask(*PAIR, born(0, 1, 0), born(2, 1, 0), born(0, 2, 0))[3:], [3, -13])
        self.assertEqual(ask(*PAIR, born(0, 1, 1), born(0, 2, 0), born(2, 1, 0))[3:], [3, -13])

    def test_the_same_parents_many_times(self):
        self.assertEqual(ask(*PAIR, *[born(0, 1, 1)] * 22), list(range(24)))

    def test_parents_and_young(self):
        calls = [*PAIR, born(0, 1, 1), born(0, 2, 0), born(3, 1, 1), born(3, 4, 0)]
        self.assertEqual(ask(*calls), [0, 1, 2, 3, 4, 5])

    def test_last_numbers_as_parents(self):
        calls = full_book()[:23]
        self.assertEqual(last(*calls, born(22, 21, 0)), 23)

    def test_parents_gone_already(self):
        self.assertEqual(last(*PAIR, gone(0), born(0, 1, 0)), 2)
        self.assertEqual(last(*PAIR, gone(1), born(0, 1, 0)), 2)
        self.assertEqual(last(*PAIR, gone(0), gone(1), born(0, 1, 0)), 2)

    def test_born_of_gone_parents_it_lives_and_they_stay_gone(self):
        calls = [*PAIR, gone(0), gone(1), born(0, 1, 0), gone(2), gone(0), gone(1)]
        self.assertEqual(ask(*calls)[4:], [2, 0, -11, -11])


class BornRefusedTest(unittest.TestCase):
    def test_female_above_1(self):
        for female in (2, 3, 256, 2 ** 31, MOST):
            with self.subTest(female=female):
                self.assertEqual(last(*PAIR, born(0, 1, female)), -22)

    def test_sire_not_in_the_book_by_one(self):
        self.assertEqual(last(*PAIR, born(2, 1, 0)), -2)

    def test_dam_not_in_the_book_by_one(self):
        self.assertEqual(last(*PAIR, born(0, 2, 0)), -2)

    def test_neither_in_the_book(self):
        self.assertEqual(last(*PAIR, born(2, 2, 0)), -2)
        self.assertEqual(last(*PAIR, born(MOST, MOST, 1)), -2)

    def test_sire_or_dam_not_in_the_book_by_much(self):
        for number in FAR_NUMBERS:
            with self.subTest(number=number):
                self.assertEqual(last(*PAIR, born(number, 1, 0)), -2)
                self.assertEqual(last(*PAIR, born(0, number, 1)), -2)

    def test_in_an_empty_book(self):
        self.assertEqual(ask(born(0, 1, 0)), [-2])
        self.assertEqual(ask(born(1, 0, 1)), [-2])

    def test_its_own_number_is_not_in_the_book_yet(self):
        self.assertEqual(ask(*PAIR, born(2, 1, 0), born(0, 1, 0), born(2, 1, 0))[2:], [-2, 2, 3])

    def test_sire_is_female(self):
        self.assertEqual(last(new(1), new(1), born(0, 1, 0)), -13)

    def test_dam_is_male(self):
        self.assertEqual(last(new(0), new(0), born(0, 1, 0)), -13)

    def test_both_the_wrong_way_round(self):
        self.assertEqual(last(*PAIR, born(1, 0, 0)), -13)

    def test_sire_and_dam_one_and_the_same(self):
        self.assertEqual(last(*PAIR, born(0, 0, 0)), -13)
        self.assertEqual(last(*PAIR, born(1, 1, 0)), -13)

    def test_the_wrong_sex_also_if_gone(self):
        self.assertEqual(last(*PAIR, gone(0), gone(1), born(1, 0, 0)), -13)

    def test_full_book(self):
        self.assertEqual(ask(*full_book(), born(0, 1, 0), born(22, 23, 1))[24:], [-28, -28])

    def test_full_book_gone_ones_count(self):
        self.assertEqual(last(*full_book(), gone(4), gone(23), born(0, 1, 0)), -28)


class BornFirstToldTest(unittest.TestCase):
    """Two refusals could be due: the one that is told first is answered."""

    def test_22_ahead_of_2(self):
        self.assertEqual(last(*PAIR, born(2, 1, 2)), -22)
        self.assertEqual(last(*PAIR, born(0, MOST, MOST)), -22)
        self.assertEqual(ask(born(0, 0, 2)), [-22])

    def test_22_ahead_of_13(self):
        self.assertEqual(last(*PAIR, born(1, 1, 2)), -22)
        self.assertEqual(last(*PAIR, born(0, 0, MOST)), -22)

    def test_22_ahead_of_28(self):
        self.assertEqual(last(*full_book(), born(0, 1, 2)), -22)
        self.assertEqual(last(*full_book(), born(0, 1, MOST)), -22)

    def test_2_ahead_of_13(self):
        self.assertEqual(last(*PAIR, born(1, 2, 0)), -2)
        self.assertEqual(last(*PAIR, born(1, MOST, 0)), -2)
        self.assertEqual(last(*PAIR, born(2, 0, 0)), -2)
        self.assertEqual(last(*PAIR, born(MOST, 0, 0)), -2)

    def test_2_ahead_of_28(self):
        self.assertEqual(last(*full_book(), born(24, 1, 0)), -2)
        self.assertEqual(last(*full_book(), born(0, 24, 0)), -2)
        self.assertEqual(last(*full_book(), born(0, MOST, 0)), -2)

    def test_13_ahead_of_28(self):
        self.assertEqual(last(*full_book(), born(1, 1, 0)), -13)
        self.assertEqual(last(*full_book(), born(0, 0, 0)), -13)
        self.assertEqual(last(*full_book(), born(1, 0, 0)), -13)

    def test_all_four(self):
        self.assertEqual(last(*full_book(), born(1, 24, 2)), -22)

    def test_three_without_22(self):
        self.assertEqual(last(*full_book(), born(1, 24, 0)), -2)


if __name__ == "__main__":
    unittest.main()
