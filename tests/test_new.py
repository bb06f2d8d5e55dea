import unittest

from helper import MOST, ask, born, full_book, gone, last, new


class NewTest(unittest.TestCase):
    def test_numbers_rise_from_0(self):
        self.assertEqual(ask(*full_book()), list(range(24)))

    def test_the_first_one_male_or_female(self):
        self.assertEqual(ask(new(0)), [0])
        self.assertEqual(ask(new(1)), [0])

    def test_female_0_is_a_male_and_1_a_female(self):
        self.assertEqual(last(new(0), new(1), born(0, 1, 0)), 2)
        self.assertEqual(last(new(0), new(1), born(1, 0, 0)), -13)

    def test_it_lives(self):
        self.assertEqual(ask(new(0), gone(0)), [0, 0])

    def test_female_above_1(self):
        for female in (2, 3, 255, 256, 2 ** 31 - 1, 2 ** 31, MOST - 1, MOST):
            with self.subTest(female=female):
                self.assertEqual(ask(new(female)), [-22])

    def test_female_above_1_takes_no_number(self):
        self.assertEqual(ask(new(2), new(0), new(MOST), new(1)), [-22, 0, -22, 1])

    def test_the_24th_is_the_last(self):
        self.assertEqual(ask(*full_book(), new(0), new(1))[23:], [23, -28, -28])

    def test_those_born_count(self):
        calls = [new(0), new(1)] + [born(0, 1, 0)] * 22 + [new(0)]
        self.assertEqual(ask(*calls), [*range(24), -28])

    def test_gone_ones_count(self):
        self.assertEqual(last(*full_book(), gone(0), new(0)), -28)
        self.assertEqual(last(*full_book(), gone(23), new(1)), -28)

    def test_all_24_gone_count(self):
        self.assertEqual(last(*full_book(), *[gone(number) for number in range(24)], new(0)), -28)

    def test_female_above_1_is_told_ahead_of_a_full_book(self):
        self.assertEqual(last(*full_book(), new(2)), -22)
        self.assertEqual(last(*full_book(), new(MOST)), -22)


if __name__ == "__main__":
    unittest.main()
