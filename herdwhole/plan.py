"""The plan for so many young: who breeds, how many young each has, and with whom."""

from herdwhole.kin import kin_between, kin_to_all
from herdwhole.mating import least_mating
from herdwhole.share import least_share

MOST_OF_A_SEX = 4
NO_BREEDER = 255


def plan_numbers(table, males, females, young):
    """Give the 32 numbers of the plan for these living males and females, then the two that are told of it."""
    herd = males + females
    sires = breeders(table, males, herd)
    dams = breeders(table, females, herd)
    across = kin_between(table, sires, dams)
    share = least_share(kin_between(table, sires, sires), kin_between(table, dams, dams), across, young)
    mating = least_mating(across, share.of_males, share.of_females)
    numbers = filled_up(sires, NO_BREEDER) + filled_up(dams, NO_BREEDER)
    numbers.extend(filled_up(share.of_males, 0) + filled_up(share.of_females, 0))
    for row in filled_up(mating.rows, ()):
        numbers.extend(filled_up(row, 0))
    return numbers + [share.akin, mating.cost]


def breeders(table, animals, herd):
    ranked = sorted([(kin_to_all(table, animal, herd), animal) for animal in animals])
    return sorted([pair[1] for pair in ranked[:MOST_OF_A_SEX]])


def filled_up(values, blank):
    return list(values) + [blank] * (MOST_OF_A_SEX - len(values))
