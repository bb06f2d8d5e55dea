import itertools
import random
import unittest

from helper import HALF, MOST, START, Book, ask_whole, born, drawn_books, full_book, gone, kin, last_whole, new

PAIR = [new(0), new(1)]
FAR_NUMBERS = (3, 23, 24, 25, 254, 255, 256, 2 ** 31 - 1, 2 ** 31, MOST - 1, MOST)

# 0 and 1; their young 2 (male), 3 and 4 (female); 5 a male from outside, 6 its young with 1, 7 that of 2 and 3,
# 8 that of 2 and 4, 9 that of 7 and 8.
FAMILY = [*PAIR, born(0, 1, 0), born(0, 1, 1), born(0, 1, 1), new(0), born(5, 1, 0), born(2, 3, 0), born(2, 4, 1),
          born(7, 8, 0)]


def how_akin(calls, a, b):
    answer = last_whole(*calls, kin(a, b))
    if len(answer) != 2 or answer[0] != 0:
        raise AssertionError(f"not how akin two are: {answer!r}")
    return answer[1]


def table_of(calls):
    """How akin each is to each, asked of the book."""
    count = len([call for call in calls if call[0] in (1, 2)])
    pairs = list(itertools.product(range(count), repeat=2))
    told = ask_whole(*calls, *[kin(a, b) for a, b in pairs])[len(calls):]
    table = [[None] * count for _ in range(count)]
    for (a, b), (answer, out) in zip(pairs, told):
        if answer != 0:
            raise AssertionError(f"{answer!r} for {a!r} and {b!r}")
        table[a][b] = out
    return table


def kin_by_draws(parents, a, b):
    """As the words say: each way that all draws may go is gone through."""
    copied = [(number, side) for number in range(len(parents)) for side in (0, 1) if parents[number][side] is not None]
    alike = 0
    for draws in itertools.product((0, 1), repeat=len(copied)):
        drawn = dict(zip(copied, draws))
        genes = {}
        for number in range(len(parents)):
            for side in (0, 1):
                parent = parents[number][side]
                genes[number, side] = (number, side) if parent is None else genes[parent, drawn[number, side]]
        alike += sum(genes[a, mine] == genes[b, its] for mine in (0, 1) for its in (0, 1))
    return alike * 2 ** 48 // (4 * 2 ** len(copied))


class KinRefusedTest(unittest.TestCase):
    def test_empty_book(self):
        self.assertEqual(ask_whole(kin(0, 0), kin(0, 1), kin(MOST, MOST)), [[-2], [-2], [-2]])

    def test_a_not_in_the_book_by_one(self):
        self.assertEqual(last_whole(*PAIR, kin(2, 0)), [-2])

    def test_b_not_in_the_book_by_one(self):
        self.assertEqual(last_whole(*PAIR, kin(0, 2)), [-2])

    def test_neither_in_the_book_by_one(self):
        self.assertEqual(last_whole(*PAIR, kin(2, 2)), [-2])
        self.assertEqual(last_whole(*PAIR, kin(2, 3)), [-2])

    def test_not_in_the_book_by_much(self):
        for number in FAR_NUMBERS:
            with self.subTest(number=number):
                calls = [kin(number, 0), kin(1, number), kin(number, number), kin(number, MOST)]
                self.assertEqual(ask_whole(*PAIR, *calls)[2:], [[-2]] * 4)

    def test_not_in_a_full_book(self):
        calls = [kin(24, 0), kin(0, 24), kin(24, 24), kin(23, 23)]
        self.assertEqual(ask_whole(*full_book(), *calls)[24:], [[-2], [-2], [-2], [0, HALF]])

    def test_in_the_book_behind_its_coming(self):
        self.assertEqual(ask_whole(*PAIR, kin(2, 0), born(0, 1, 0), kin(2, 0))[2:], [[-2], [2], [0, HALF // 2]])

    def test_a_refused_young_one_is_not_in_the_book(self):
        self.assertEqual(last_whole(*PAIR, born(0, 1, 2), kin(2, 2)), [-2])
        self.assertEqual(last_whole(*PAIR, born(1, 0, 0), kin(2, 2)), [-2])

    def test_out_of_the_book_behind_a_start(self):
        self.assertEqual(last_whole(*PAIR, START, new(0), kin(0, 1)), [-2])


class KinTest(unittest.TestCase):
    def test_one_from_outside_with_itself(self):
        self.assertEqual(last_whole(new(0), kin(0, 0)), [0, 2 ** 47])
        self.assertEqual(last_whole(new(1), kin(0, 0)), [0, 2 ** 47])

    def test_two_from_outside(self):
        self.assertEqual(how_akin(PAIR, 0, 1), 0)
        self.assertEqual(how_akin([new(1), new(1)], 0, 1), 0)

    def test_all_from_outside(self):
        expected = [[HALF if a == b else 0 for b in range(24)] for a in range(24)]
        self.assertEqual(table_of(full_book()), expected)

    def test_young_with_its_sire(self):
        self.assertEqual(how_akin(FAMILY, 2, 0), 2 ** 46)

    def test_young_with_its_dam(self):
        self.assertEqual(how_akin(FAMILY, 2, 1), 2 ** 46)

    def test_young_with_itself(self):
        self.assertEqual(how_akin(FAMILY, 2, 2), 2 ** 47)

    def test_young_with_one_from_outside(self):
        self.assertEqual(how_akin(FAMILY, 2, 5), 0)

    def test_full_brothers_and_sisters(self):
        self.assertEqual(how_akin(FAMILY, 2, 3), 2 ** 46)
        self.assertEqual(how_akin(FAMILY, 3, 4), 2 ** 46)

    def test_half_brothers_and_sisters(self):
        self.assertEqual(how_akin(FAMILY, 3, 6), 2 ** 45)
        self.assertEqual(how_akin([*PAIR, new(1), born(0, 1, 0), born(0, 2, 1)], 3, 4), 2 ** 45)

    def test_young_of_brother_and_sister(self):
        self.assertEqual(how_akin(FAMILY, 7, 7), 2 ** 47 + 2 ** 45)
        self.assertEqual(how_akin(FAMILY, 7, 2), 2 ** 46 + 2 ** 45)
        self.assertEqual(how_akin(FAMILY, 7, 0), 2 ** 46)
        self.assertEqual(how_akin(FAMILY, 7, 8), 2 ** 46 + 2 ** 44)

    def test_young_of_sire_and_daughter(self):
        calls = [*PAIR, born(0, 1, 1), born(0, 2, 0)]
        self.assertEqual(how_akin(calls, 3, 3), 2 ** 47 + 2 ** 45)
        self.assertEqual(how_akin(calls, 3, 0), 2 ** 46 + 2 ** 45)
        self.assertEqual(how_akin(calls, 3, 1), 2 ** 45)

    def test_sire_may_have_the_greater_number(self):
        calls = [new(1), new(0), born(1, 0, 0), born(2, 0, 1)]
        self.assertEqual(how_akin(calls, 2, 3), 2 ** 46 + 2 ** 45)
        self.assertEqual(how_akin(calls, 3, 0), 2 ** 46 + 2 ** 45)
        self.assertEqual(how_akin(calls, 3, 1), 2 ** 45)

    def test_the_other_way_round(self):
        table = table_of(FAMILY)
        for a in range(len(table)):
            for b in range(len(table)):
                self.assertEqual(table[a][b], table[b][a])

    def test_brother_and_sister_over_many_generations(self):
        calls = list(PAIR)
        for first in range(0, 22, 2):
            calls.extend([born(first, first + 1, 0), born(first, first + 1, 1)])
        table = table_of(calls)
        # How inbred each generation is, by the known row: a quarter of 1, of twice the last one and of the one before.
        inbred = [0, 0]
        while len(inbred) < 13:
            inbred.append((2 ** 48 + 2 * inbred[-1] + inbred[-2]) // 4)
        for step in range(12):
            self.assertEqual(table[2 * step][2 * step], (2 ** 48 + inbred[step]) // 2)
            self.assertEqual(table[2 * step][2 * step + 1], inbred[step + 1])

    def test_back_to_one_sire_over_23_generations(self):
        calls = list(PAIR)
        for number in range(2, 24):
            calls.append(born(0, number - 1, 1))
        table = table_of(calls)
        for number in range(1, 24):
            self.assertEqual(table[0][number], 2 ** 47 - 2 ** (48 - number))
            self.assertEqual(table[1][number], 2 ** (48 - number))

    def test_with_new_blood_over_many_generations(self):
        calls = [new(0)]
        for number in range(1, 23, 2):
            calls.extend([new(1), born(number - 1, number, 0)])
        table = table_of(calls)
        for step in range(12):
            self.assertEqual(table[0][2 * step], 2 ** (47 - step))
            self.assertEqual(table[2 * step][2 * step], 2 ** 47)

    def test_of_animals_that_are_gone(self):
        plain = table_of(FAMILY)
        for going in ([0], [2, 7], list(range(10))):
            with self.subTest(going=going):
                self.assertEqual(table_of(FAMILY + [gone(number) for number in going]), plain)

    def test_of_young_whose_parents_are_gone(self):
        early = [*PAIR, gone(0), gone(1), *FAMILY[2:]]
        self.assertEqual(table_of(early), table_of(FAMILY))

    def test_one_that_comes_later_changes_nothing(self):
        for count in range(1, len(FAMILY) + 1):
            part = table_of(FAMILY[:count])
            self.assertEqual(part, [row[:count] for row in table_of(FAMILY)[:count]])

    def test_a_start_forgets_who_was_akin(self):
        told = ask_whole(*FAMILY, START, *PAIR, new(0), kin(0, 2), kin(2, 2), kin(1, 2))
        self.assertEqual(told[-3:], [[0, 0], [0, HALF], [0, 0]])


class AgainstOtherWaysTest(unittest.TestCase):
    def test_each_way_of_the_draws(self):
        books = [FAMILY[:5], FAMILY[:3] + [new(1), born(2, 1, 0), born(2, 3, 1), born(4, 5, 0)],
                 [new(1), new(0), born(1, 0, 0), born(2, 0, 1), born(1, 3, 0), born(4, 3, 1)]]
        for calls in books:
            parents = Book(calls).parents
            table = table_of(calls)
            for a, b in itertools.product(range(len(parents)), repeat=2):
                self.assertEqual(table[a][b], kin_by_draws(parents, a, b), (calls, a, b))

    def test_books_of_many_kinds(self):
        draw = random.Random(3)
        for calls in drawn_books(draw, 60) + drawn_books(draw, 20, least=24):
            self.assertEqual(table_of(calls), Book(calls).kin, calls)

    def test_as_the_third_promise_of_the_part_says(self):
        draw = random.Random(31)
        for calls in drawn_books(draw, 30):
            parents = Book(calls).parents
            table = table_of(calls)
            for a, b in itertools.product(range(len(parents)), repeat=2):
                sire, dam = parents[max(a, b)]
                if a == b:
                    of_parents = 0 if sire is None else table[sire][dam]
                    self.assertEqual(2 * table[a][a], 2 ** 48 + of_parents)
                else:
                    both = 0 if sire is None else table[sire][min(a, b)] + table[dam][min(a, b)]
                    self.assertEqual(2 * table[a][b], both)


if __name__ == "__main__":
    unittest.main()
