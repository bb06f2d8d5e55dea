"""Calls written as words, answers taken apart, and the same answers worked out in other ways, for the tests."""

import itertools
from fractions import Fraction

from herdwhole.book import answers

MOST = 4294967295
HALF = 2 ** 47

START = [0]
HERD = [5]


def new(female):
    return [1, female]


def born(sire, dam, female):
    return [2, sire, dam, female]


def gone(animal):
    return [3, animal]


def kin(a, b):
    return [4, a, b]


def plan(young):
    return [6, young]


def joined(calls):
    row = []
    for call in calls:
        row.extend(call)
    return row


def split(told):
    parts = []
    place = 0
    while place < len(told):
        count = told[place]
        part = told[place + 1:place + 1 + count]
        if count < 1 or len(part) != count:
            raise AssertionError(f"the counts do not fit: {told!r}")
        parts.append(part)
        place += 1 + count
    return parts


def ask_whole(*calls):
    """What each of the calls answers, all numbers of each; one start stands ahead of them."""
    parts = split(answers(joined([START, *calls])))
    if len(parts) != 1 + len(calls) or parts[0] != [0]:
        raise AssertionError(f"not an answer a call: {parts!r}")
    return parts[1:]


def ask(*calls):
    """The first number of what each of the calls answers."""
    return [part[0] for part in ask_whole(*calls)]


def last(*calls):
    return ask(*calls)[-1]


def last_whole(*calls):
    return ask_whole(*calls)[-1]


def full_book():
    """24 animals from outside: those with even numbers are male, those with odd ones female."""
    return [new(number % 2) for number in range(24)]


class Plan:
    """What hb_plan answers, taken apart."""

    def __init__(self, answer):
        if len(answer) != 35 or answer[0] != 0:
            raise AssertionError(f"not a plan: {answer!r}")
        out = answer[1:33]
        self.out = out
        self.males = out[:4]
        self.females = out[4:8]
        self.of_males = out[8:12]
        self.of_females = out[12:16]
        self.mating = [out[16 + 4 * male:20 + 4 * male] for male in range(4)]
        self.akin = answer[33]
        self.cost = answer[34]

    def pairs(self):
        """Sire and dam of each young one."""
        found = []
        for male, female in itertools.product(range(4), repeat=2):
            found.extend([(self.males[male], self.females[female])] * self.mating[male][female])
        return found


def planned(*calls):
    """The plan that the last of the calls answers."""
    return Plan(last_whole(*calls))


class Book:
    """The animals that the calls have put into the book; a call that would be refused is not to be among them."""

    def __init__(self, calls):
        self.parents = []
        self.females = []
        self.gone = []
        for call in calls:
            if call[0] == 3:
                self.gone.append(call[1])
            elif call[0] in (1, 2):
                self.parents.append(tuple(call[1:-1]) or (None, None))
                self.females.append(call[-1])
        self.living = [number for number in range(len(self.females)) if number not in self.gone]
        self.kin = gene_kin(self.parents)

    def living_of(self, female):
        return [number for number in self.living if self.females[number] == female]

    def kin_to_herd(self, number):
        return sum(self.kin[number][other] for other in self.living)

    def herd_kin(self):
        return sum(self.kin_to_herd(number) for number in self.living)

    def breeders_of(self, female):
        """Taken out one by one: each time the one that no other is less akin than."""
        rest = self.living_of(female)
        chosen = []
        while rest and len(chosen) < 4:
            least = min(self.kin_to_herd(number) for number in rest)
            first = next(number for number in rest if self.kin_to_herd(number) == least)
            rest.remove(first)
            chosen.append(first)
        return sorted(chosen)


def gene_kin(parents):
    """How akin each is to each, gene by gene: of each two genes the chance that they are copies of one."""
    same = []
    for sire, dam in parents:
        for parent in (sire, dam):
            row = [Fraction(0)] * len(same)
            if parent is not None:
                row = [(same[2 * parent][other] + same[2 * parent + 1][other]) / 2 for other in range(len(same))]
            for other, chance in enumerate(row):
                same[other].append(chance)
            same.append(row + [Fraction(1)])
    table = []
    for a in range(len(parents)):
        sums = [sum(same[2 * a + mine][2 * b + its] for mine in (0, 1) for its in (0, 1)) for b in range(len(parents))]
        table.append([whole(chances / 4 * 2 ** 48) for chances in sums])
    return table


def whole(fraction):
    if fraction.denominator != 1:
        raise AssertionError(f"not a whole number: {fraction!r}")
    return int(fraction)


def shares_among(young, count):
    """All ways for so many breeders to have so many young together."""
    found = []
    for bars in itertools.combinations(range(young + count - 1), count - 1):
        ends = (-1, *bars, young + count - 1)
        found.append(tuple(ends[place + 1] - ends[place] - 1 for place in range(count)))
    return found


def akin_by(table, breeders, share):
    """How akin all are by a share: each breeder with each, and with itself."""
    having = [(breeder, count) for breeder, count in zip(breeders, share) if count]
    return sum(count * times * table[one][other] for one, count in having for other, times in having)


def least_share(table, males, females, young):
    """The share, one number for each breeder, and how akin all are by it: all shares gone through one by one."""
    breeders = males + females
    best = None
    for of_males in shares_among(young, len(males)):
        for of_females in shares_among(young, len(females)):
            akin = akin_by(table, breeders, of_males + of_females)
            if best is None or akin < best[0] or (akin == best[0] and of_males + of_females > best[1]):
                best = (akin, of_males + of_females)
    return best


def least_mating(table, males, females, of_males, of_females):
    """The mating, a row for each male, and what it costs: all matings gone through one by one."""
    best = None
    for rows in itertools.product(*[shares_among(count, len(females)) for count in of_males]):
        if tuple(map(sum, zip(*rows))) != tuple(of_females):
            continue
        cost = sum(table[male][female] * count for male, row in zip(males, rows) for female, count in zip(females, row))
        if best is None or cost < best[0] or (cost == best[0] and rows > best[1]):
            best = (cost, rows)
    return best


def filled(numbers, blank):
    return [*numbers, *[blank] * (4 - len(numbers))]


def plan_in_words(book, young):
    """What hb_plan answers, worked out by going through all shares and all matings."""
    males, females = book.breeders_of(0), book.breeders_of(1)
    if not 1 <= young <= 8:
        return [-22]
    if not males or not females:
        return [-33]
    akin, share = least_share(book.kin, males, females, young)
    of_males, of_females = share[:len(males)], share[len(males):]
    cost, rows = least_mating(book.kin, males, females, of_males, of_females)
    out = filled(males, 255) + filled(females, 255) + filled(of_males, 0) + filled(of_females, 0)
    out += joined(filled(row, 0) for row in filled(rows, ()))
    return [0, *out, akin, cost]


def drawn_book(draw, count, outside, near=24, dying=0.3):
    """Calls that put so many animals into the book, and let some go.

    outside: how many come from outside first; near: how many of the last of each sex may be parents."""
    calls = []
    sexes = []
    for number in range(count):
        female = number % 2 if number < 2 else draw.randrange(2)
        if number < max(outside, 2) or draw.random() < 0.05:
            calls.append(new(female))
        else:
            sires = [other for other in range(number) if sexes[other] == 0][-near:]
            dams = [other for other in range(number) if sexes[other] == 1][-near:]
            calls.append(born(draw.choice(sires), draw.choice(dams), female))
        sexes.append(female)
    going = [number for number in range(count) if draw.random() < dying]
    draw.shuffle(going)
    return calls + [gone(number) for number in going]


def drawn_books(draw, many, most=24, least=2):
    """Books of many kinds: small and large, of few from outside or many, of near or far kin, with few gone or many."""
    found = []
    while len(found) < many:
        count = draw.randrange(least, most + 1)
        outside = draw.choice([2, 2, 3, 4, 6, 10, count])
        near = draw.choice([1, 2, 3, 24])
        found.append(drawn_book(draw, count, outside, near, draw.choice([0.0, 0.2, 0.5])))
    return found
