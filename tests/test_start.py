import unittest

from herdwhole.book import answers
from helper import MOST, START, ask, born, full_book, gone, new


class StartTest(unittest.TestCase):
    def test_answers_0(self):
        self.assertEqual(answers([0]), [1, 0])

    def test_the_book_is_empty(self):
        self.assertEqual(ask(gone(0)), [-2])
        self.assertEqual(ask(born(0, 0, 0)), [-2])
        self.assertEqual(ask(new(0)), [0])

    def test_twice_at_once(self):
        self.assertEqual(ask(START, START, new(1)), [0, 0, 0])

    def test_again_answers_0_behind_other_calls(self):
        self.assertEqual(ask(new(0), new(1), born(0, 1, 0), gone(2), START)[-1], 0)

    def test_again_empties_the_book(self):
        self.assertEqual(ask(new(0), new(1), START, gone(0), gone(1), born(0, 1, 0))[-4:], [0, -2, -2, -2])

    def test_again_numbers_begin_from_0(self):
        calls = [new(0), new(1), born(0, 1, 1), START, new(0), new(1), born(0, 1, 1)]
        self.assertEqual(ask(*calls), [0, 1, 2, 0, 0, 1, 2])

    def test_again_makes_room_in_a_full_book(self):
        self.assertEqual(ask(*full_book(), new(0), START, *full_book(), new(0))[24:], [-28, 0, *range(24), -28])

    def test_again_nobody_is_gone_yet(self):
        self.assertEqual(ask(new(0), gone(0), START, new(0), gone(0), gone(0))[2:], [0, 0, 0, -11])

    def test_again_nobody_keeps_a_sex(self):
        calls = [new(0), new(1), START, new(1), new(0), born(0, 1, 0), born(1, 0, 0)]
        self.assertEqual(ask(*calls)[3:], [0, 1, -13, 2])

    def test_again_behind_refusals(self):
        self.assertEqual(ask(new(2), gone(MOST), START, new(0)), [-22, -2, 0, 0])


if __name__ == "__main__":
    unittest.main()
