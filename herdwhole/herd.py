"""The animals of one book, and what the calls do to them and tell of them."""

from herdwhole.kin import add_to_table, kin_to_all
from herdwhole.plan import plan_numbers

MOST_ANIMALS = 24
MOST_YOUNG = 8

NOT_IN_BOOK = -2
GONE_ALREADY = -11
WRONG_SEX = -13
BAD_NUMBER = -22
BOOK_FULL = -28
NO_PAIR = -33


class Animal:
    """One animal. Who its parents are shows in the herd's table alone: nothing else asks for them."""

    def __init__(self, female):
        self.female = female
        self.living = True


class Herd:
    """The book: the animals, and a table of how akin each is to each.

    An animal's number is its place in both, so none is ever taken out."""

    def __init__(self):
        self.animals = []
        self.table = []

    def begin(self):
        self.animals = []
        self.table = []
        return 0

    def take_in(self, female):
        if female > 1:
            return BAD_NUMBER
        return self.enter(None, None, female)

    def breed(self, sire, dam, female):
        # The order of these refusals is promised: the one told first is answered.
        if female > 1:
            return BAD_NUMBER
        if not self.holds(sire) or not self.holds(dam):
            return NOT_IN_BOOK
        if self.is_female(sire) or not self.is_female(dam):
            return WRONG_SEX
        return self.enter(sire, dam, female)

    def let_go(self, number):
        if not self.holds(number):
            return NOT_IN_BOOK
        animal = self.animals[number]
        if not animal.living:
            return GONE_ALREADY
        animal.living = False
        return 0

    def tell_kin(self, number, other):
        if not self.holds(number) or not self.holds(other):
            return [NOT_IN_BOOK]
        return [0, self.table[number][other]]

    def tell_herd(self):
        living = self.living_numbers()
        return [len(living), sum([kin_to_all(self.table, number, living) for number in living])]

    def tell_plan(self, young):
        if young < 1 or young > MOST_YOUNG:
            return [BAD_NUMBER]
        living = self.living_numbers()
        males = [number for number in living if not self.is_female(number)]
        females = [number for number in living if self.is_female(number)]
        if not males or not females:
            return [NO_PAIR]
        return [0] + plan_numbers(self.table, males, females, young)

    def enter(self, sire, dam, female):
        number = len(self.animals)
        if number == MOST_ANIMALS:
            return BOOK_FULL
        self.animals.append(Animal(female))
        add_to_table(self.table, sire, dam)
        return number

    def holds(self, number):
        return number < len(self.animals)

    def is_female(self, number):
        return self.animals[number].female == 1

    def living_numbers(self):
        return [number for number in range(len(self.animals)) if self.animals[number].living]
