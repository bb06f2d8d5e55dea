"""The animals of one book, and what the calls do to them."""

MOST_ANIMALS = 24

NOT_IN_BOOK = -2
GONE_ALREADY = -11
WRONG_SEX = -13
BAD_NUMBER = -22
BOOK_FULL = -28


class Animal:
    """One animal; sire and dam are both None if it came from outside."""

    def __init__(self, sire, dam, female):
        self.sire = sire
        self.dam = dam
        self.female = female
        self.living = True


class Herd:
    """The book. An animal's number is its place in the list, so none is ever taken out."""

    def __init__(self):
        self.animals = []

    def begin(self):
        self.animals = []
        return 0

    def take_in(self, female):
        if female > 1:
            return BAD_NUMBER
        return self.enter(None, None, female)

    def breed(self, sire, dam, female):
        # The order of these refusals is promised: the one told first is answered.
        if female > 1:
            return BAD_NUMBER
        if not self.holds(sire) or not self.holds(dam):
            return NOT_IN_BOOK
        if self.is_female(sire) or not self.is_female(dam):
            return WRONG_SEX
        return self.enter(sire, dam, female)

    def let_go(self, number):
        if not self.holds(number):
            return NOT_IN_BOOK
        animal = self.animals[number]
        if not animal.living:
            return GONE_ALREADY
        animal.living = False
        return 0

    def enter(self, sire, dam, female):
        number = len(self.animals)
        if number == MOST_ANIMALS:
            return BOOK_FULL
        self.animals.append(Animal(sire, dam, female))
        return number

    def holds(self, number):
        return number < len(self.animals)

    def is_female(self, number):
        return self.animals[number].female == 1
