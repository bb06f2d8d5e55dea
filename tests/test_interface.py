import builtins
import contextlib
import io
import unittest
from unittest import mock

import herdwhole.book
from herdwhole.book import answers
from helper import HALF, HERD, MOST, START, born, full_book, gone, joined, kin, new, plan, split

# The last plan, by hand: the male 3, twice, 4 halves; the females 1 and 2, dam and daughter, 2 halves and 2 quarters.
MIXED = joined([START, HERD, plan(1), new(0), new(1), born(0, 1, 1), kin(0, 2), kin(3, 0), gone(0), gone(0), HERD,
                born(0, 7, 0), new(2), born(1, 0, 0), plan(0), new(0), plan(2)])
PLAN_TOLD = [35, 0, 3, 255, 255, 255, 1, 2, 255, 255, 2, 0, 0, 0, 1, 1, 0, 0,
             1, 1, 0, 0, 0, 0, 0, 0, 0, 0, 0, 0, 0, 0, 0, 0, 7 * HALF, 0]
MIXED_TOLD = [1, 0, 2, 0, 0, 1, -33, 1, 0, 1, 1, 1, 2, 2, 0, 2 ** 46, 1, -2, 1, 0, 1, -11, 2, 2, 3 * HALF,
              1, -2, 1, -22, 1, -13, 1, -22, 1, 3, *PLAN_TOLD]


class UnchangedList(list):
    """A list that tells of each try to change it, even if the change is taken back."""


def refuse_change(name):
    def refuse(self, *given, **named):
        raise AssertionError(f"the list was changed by {name}")
    return refuse


for changing in ("append", "clear", "extend", "insert", "pop", "remove", "reverse", "sort",
                 "__setitem__", "__delitem__", "__iadd__", "__imul__"):
    setattr(UnchangedList, changing, refuse_change(changing))


class InterfaceTest(unittest.TestCase):
    def test_how_many_numbers_then_these(self):
        self.assertEqual(answers(MIXED), MIXED_TOLD)

    def test_one_call(self):
        self.assertEqual(answers([0]), [1, 0])

    def test_each_call_takes_its_own_numbers(self):
        # Wherever a call took one number more or less, what is behind it would be read as other calls.
        self.assertEqual(answers([0, 1, 1, 1, 0, 2, 1, 0, 1, 3, 2, 3, 3, 0]),
                         [1, 0, 1, 0, 1, 1, 1, 2, 1, 0, 1, -2, 1, 0])

    def test_each_look_takes_its_own_numbers(self):
        self.assertEqual(answers([0, 5, 1, 0, 4, 0, 0, 5, 6, 0, 5, 4, 0, 1, 6, 1, 0, 5]),
                         [1, 0, 2, 0, 0, 1, 0, 2, 0, HALF, 2, 1, HALF, 1, -22, 2, 1, HALF, 1, -2, 1, -33, 1, 0,
                          2, 0, 0])

    def test_how_many_numbers_each_call_answers(self):
        calls = [START, new(0), new(1), born(0, 1, 0), gone(0), kin(0, 1), HERD, plan(8)]
        self.assertEqual([len(part) for part in split(answers(joined(calls)))], [1, 1, 1, 1, 1, 2, 2, 35])

    def test_how_many_numbers_each_refusal_has(self):
        calls = [START, plan(1), new(2), born(0, 0, 2), gone(0), kin(0, 0), plan(9)]
        self.assertEqual(answers(joined(calls)), [1, 0, 1, -33, 1, -22, 1, -22, 1, -2, 1, -2, 1, -22])

    def test_the_numbers_of_a_plan(self):
        for young in range(1, 9):
            answer = split(answers(joined([START, *full_book(), plan(young)])))[-1]
            self.assertEqual(len(answer), 35)
            self.assertTrue(all(0 <= number <= 255 for number in answer[1:33]))
            self.assertTrue(all(0 <= number < 2 ** 64 for number in answer[33:]))

    def test_1000_calls_of_the_longest(self):
        calls = joined([START, *[born(0, 1, 0)] * 999])
        self.assertEqual(len(calls), 3997)
        self.assertEqual(answers(calls), [1, 0] + [1, -2] * 999)

    def test_1000_starts(self):
        self.assertEqual(answers([0] * 1000), [1, 0] * 1000)

    def test_1000_calls_that_fill_the_book(self):
        calls = joined([START, new(0), new(1), *[born(0, 1, 0)] * 997])
        told = [0, *range(24), *[-28] * 975]
        self.assertEqual(len(told), 1000)
        self.assertEqual(answers(calls), joined([1, answer] for answer in told))

    def test_1000_calls_with_many_starts(self):
        calls = joined([START, new(0), new(1), born(0, 1, MOST), gone(1)] * 200)
        self.assertEqual(answers(calls), [1, 0, 1, 0, 1, 1, 1, -22, 1, 0] * 200)

    def test_gives_back_a_list_of_whole_numbers(self):
        told = answers(MIXED)
        self.assertIs(type(told), list)
        self.assertEqual({type(number) for number in told}, {int})

    def test_the_list_is_the_same_afterwards(self):
        calls = list(MIXED)
        told = answers(calls)
        self.assertEqual(calls, MIXED)
        self.assertIsNot(told, calls)

    def test_the_list_is_not_changed_for_a_while(self):
        self.assertEqual(answers(UnchangedList(MIXED)), MIXED_TOLD)

    def test_twice_with_one_list(self):
        calls = list(MIXED)
        first = answers(calls)
        self.assertEqual(answers(calls), first)
        self.assertEqual(first, MIXED_TOLD)

    def test_what_is_given_back_is_new_each_time(self):
        first = answers(MIXED)
        first.clear()
        self.assertEqual(answers(MIXED), MIXED_TOLD)

    def test_an_earlier_list_is_not_seen_by_a_later_one(self):
        answers(joined([START, *[new(0)] * 24, *[gone(number) for number in range(24)]]))
        self.assertEqual(answers(joined([START, gone(0), new(1), gone(0)])), [1, 0, 1, -2, 1, 0, 1, 0])
        self.assertEqual(answers(joined([START, HERD, kin(0, 0), plan(1)])), [1, 0, 2, 0, 0, 1, -2, 1, -33])

    def test_an_earlier_list_is_not_seen_in_a_plan(self):
        plain = joined([START, new(0), new(1), new(1), HERD, kin(1, 2), plan(5)])
        first = answers(plain)
        answers(joined([START, new(0), new(1), born(0, 1, 1), HERD, kin(1, 2), plan(5)]))
        self.assertEqual(answers(plain), first)

    def test_prints_reads_and_imports_nothing(self):
        told = io.StringIO()
        refuse = mock.Mock(side_effect=AssertionError("not to be called"))
        with contextlib.redirect_stdout(told), contextlib.redirect_stderr(told), \
                mock.patch.object(builtins, "open", refuse), mock.patch.object(builtins, "input", refuse), \
                mock.patch("sys.stdin", None), mock.patch.object(builtins, "__import__", refuse):
            answer = answers(MIXED)
        self.assertEqual(told.getvalue(), "")
        self.assertEqual(answer, MIXED_TOLD)

    def test_the_name_of_the_argument(self):
        self.assertEqual(herdwhole.book.answers(calls=[0]), [1, 0])


if __name__ == "__main__":
    unittest.main()
