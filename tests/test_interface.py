import builtins
import contextlib
import io
import unittest
from unittest import mock

import herdwhole.book
from herdwhole.book import answers
from helper import MOST, START, born, gone, joined, new

MIXED = joined([START, new(0), new(1), born(0, 1, 1), gone(0), gone(0), born(0, 7, 0), new(2), born(1, 0, 0)])
MIXED_TOLD = [1, 0, 1, 0, 1, 1, 1, 2, 1, 0, 1, -11, 1, -2, 1, -22, 1, -13]


class UnchangedList(list):
    """A list that tells of each try to change it, even if the change is taken back."""


def refuse_change(name):
    def refuse(self, *given, **named):
        raise AssertionError(f"the list was changed by {name}")
    return refuse


for changing in ("append", "clear", "extend", "insert", "pop", "remove", "reverse", "sort",
                 "__setitem__", "__delitem__", "__iadd__", "__imul__"):
    setattr(UnchangedList, changing, refuse_change(changing))


class InterfaceTest(unittest.TestCase):
    def test_how_many_numbers_then_these(self):
        self.assertEqual(answers(MIXED), MIXED_TOLD)

    def test_one_call(self):
        self.assertEqual(answers([0]), [1, 0])

    def test_each_call_takes_its_own_numbers(self):
        # Wherever a call took one number more or less, what is behind it would be read as other calls.
        self.assertEqual(answers([0, 1, 1, 1, 0, 2, 1, 0, 1, 3, 2, 3, 3, 0]),
                         [1, 0, 1, 0, 1, 1, 1, 2, 1, 0, 1, -2, 1, 0])

    def test_1000_calls_of_the_longest(self):
        calls = joined([START, *[born(0, 1, 0)] * 999])
        self.assertEqual(len(calls), 3997)
        self.assertEqual(answers(calls), [1, 0] + [1, -2] * 999)

    def test_1000_starts(self):
        self.assertEqual(answers([0] * 1000), [1, 0] * 1000)

    def test_1000_calls_that_fill_the_book(self):
        calls = joined([START, new(0), new(1), *[born(0, 1, 0)] * 997])
        told = [0, *range(24), *[-28] * 975]
        self.assertEqual(len(told), 1000)
        self.assertEqual(answers(calls), joined([1, answer] for answer in told))

    def test_1000_calls_with_many_starts(self):
        calls = joined([START, new(0), new(1), born(0, 1, MOST), gone(1)] * 200)
        self.assertEqual(answers(calls), [1, 0, 1, 0, 1, 1, 1, -22, 1, 0] * 200)

    def test_gives_back_a_list_of_whole_numbers(self):
        told = answers(MIXED)
        self.assertIs(type(told), list)
        self.assertEqual({type(number) for number in told}, {int})

    def test_the_list_is_the_same_afterwards(self):
        calls = list(MIXED)
        told = answers(calls)
        self.assertEqual(calls, MIXED)
        self.assertIsNot(told, calls)

    def test_the_list_is_not_changed_for_a_while(self):
        self.assertEqual(answers(UnchangedList(MIXED)), MIXED_TOLD)

    def test_twice_with_one_list(self):
        calls = list(MIXED)
        first = answers(calls)
        self.assertEqual(answers(calls), first)
        self.assertEqual(first, MIXED_TOLD)

    def test_what_is_given_back_is_new_each_time(self):
        first = answers(MIXED)
        first.clear()
        self.assertEqual(answers(MIXED), MIXED_TOLD)

    def test_an_earlier_list_is_not_seen_by_a_later_one(self):
        answers(joined([START, *[new(0)] * 24, *[gone(number) for number in range(24)]]))
        self.assertEqual(answers(joined([START, gone(0), new(1), gone(0)])), [1, 0, 1, -2, 1, 0, 1, 0])

    def test_prints_reads_and_imports_nothing(self):
        told = io.StringIO()
        refuse = mock.Mock(side_effect=AssertionError("not to be called"))
        with contextlib.redirect_stdout(told), contextlib.redirect_stderr(told), \
                mock.patch.object(builtins, "open", refuse), mock.patch.object(builtins, "input", refuse), \
                mock.patch("sys.stdin", None), mock.patch.object(builtins, "__import__", refuse):
            answer = answers(MIXED)
        self.assertEqual(told.getvalue(), "")
        self.assertEqual(answer, MIXED_TOLD)

    def test_the_name_of_the_argument(self):
        self.assertEqual(herdwhole.book.answers(calls=[0]), [1, 0])


if __name__ == "__main__":
    unittest.main()
