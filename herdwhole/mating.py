"""Which with which: the mating by which those who have young together are least akin."""

from herdwhole.ways import ways_to_share


class Mating:
    """A mating: for each male a row, how many young it has with each female; and what it costs."""

    def __init__(self, cost, rows):
        self.cost = cost
        self.rows = rows


def least_mating(across, of_males, of_females):
    """Give the first of the least matings; across has for each male a row: how akin it is to each female."""
    return least_rest(across, of_males, 0, of_females, {})


def least_rest(across, of_males, male, left, known):
    """Give the least mating of this male and those behind it, where left is what each female shall still have.

    known keeps what was found already: many ways to mate the males ahead leave the same."""
    if male == len(of_males):
        return Mating(0, [])
    if (male, left) not in known:
        found = []
        for row in ways_to_share(of_males[male], left):
            rest = least_rest(across, of_males, male + 1, less(left, row), known)
            found.append(Mating(row_cost(across[male], row) + rest.cost, [row] + rest.rows))
        # The first of like ones is what min gives, and what is promised.
        known[(male, left)] = min(found, key=cost_of)
    return known[(male, left)]


def less(counts, row):
    return tuple([count - taken for count, taken in zip(counts, row)])


def row_cost(kin, row):
    return sum([number * count for number, count in zip(kin, row)])


def cost_of(mating):
    return mating.cost
