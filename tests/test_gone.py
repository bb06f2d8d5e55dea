import unittest

from helper import MOST, ask, born, full_book, gone, last, new


class GoneTest(unittest.TestCase):
    def test_answers_0(self):
        self.assertEqual(last(new(0), gone(0)), 0)
        self.assertEqual(last(new(1), gone(0)), 0)

    def test_each_of_a_full_book_once(self):
        self.assertEqual(ask(*full_book(), *[gone(number) for number in range(24)])[24:], [0] * 24)

    def test_not_in_the_book_by_one(self):
        self.assertEqual(last(gone(0)), -2)
        self.assertEqual(last(new(0), gone(1)), -2)
        self.assertEqual(last(*full_book(), gone(24)), -2)

    def test_not_in_the_book_by_much(self):
        for number in (2, 23, 24, 255, 256, 2 ** 31 - 1, 2 ** 31, MOST - 1, MOST):
            with self.subTest(number=number):
                self.assertEqual(last(new(0), gone(number)), -2)

    def test_the_second_time(self):
        self.assertEqual(ask(new(0), gone(0), gone(0), gone(0))[1:], [0, -11, -11])

    def test_the_second_time_behind_other_calls(self):
        calls = [new(0), new(1), gone(0), born(0, 1, 0), new(1), gone(1), gone(0)]
        self.assertEqual(ask(*calls)[5:], [0, -11])

    def test_another_one_still_lives(self):
        self.assertEqual(ask(new(0), new(0), new(0), gone(1), gone(0), gone(2), gone(1))[3:], [0, 0, 0, -11])

    def test_one_not_in_the_book_yet_may_go_later(self):
        self.assertEqual(ask(gone(0), new(0), gone(0)), [-2, 0, 0])

    def test_it_keeps_its_number(self):
        self.assertEqual(ask(new(0), gone(0), new(0), gone(0), gone(1)), [0, 0, 1, -11, 0])

    def test_the_last_one_keeps_its_number(self):
        self.assertEqual(ask(new(0), new(1), gone(1), new(1), born(0, 1, 0)), [0, 1, 0, 2, 3])

    def test_it_stays_in_the_book_with_its_sex(self):
        calls = [new(0), new(1), gone(0), gone(1), born(0, 1, 0), born(1, 0, 0)]
        self.assertEqual(ask(*calls)[4:], [2, -13])

    def test_it_still_fills_the_book(self):
        self.assertEqual(last(*full_book(), gone(0), born(0, 1, 0)), -28)


if __name__ == "__main__":
    unittest.main()
