"""How many young of whom: the share by which all are least akin."""

from herdwhole.ways import ways_to_share


class Share:
    """A share, and how akin all are by it."""

    def __init__(self, akin, of_males, of_females):
        self.akin = akin
        self.of_males = of_males
        self.of_females = of_females


def least_share(males_kin, females_kin, across, young):
    """Give the first of the least shares; across has for each male a row: how akin it is to each female.

    A share is one of the males' ways and one of the females'. All of the females' ways are looked at together, in
    rows with a number for each way: that is much less work than pair by pair."""
    females_ways = ways_to_share(young, [young] * len(females_kin))
    pulls = [pull_of_male(row, females_ways) for row in across]
    costs = [kin_among(females_kin, way) for way in females_ways]
    # First all young are the last male's; then each that another male has is taken from it.
    costs = with_added(costs, young, pulls[-1])
    moves = [with_added(pull, -1, pulls[-1]) for pull in pulls[:-1]]
    least = least_from(males_kin, moves, (), young, costs)
    return Share(least[0], least[1], females_ways[least[2]])


def kin_among(kin, counts):
    return weighed([weighed(row, counts) for row in kin], counts)


def weighed(numbers, counts):
    return sum([number * count for number, count in zip(numbers, counts)])


def pull_of_male(row, females_ways):
    """Give for each of the females' ways what one young of this male adds to how akin all are."""
    # Twice, since a male with a female is counted as well as the female with the male.
    return [2 * weighed(row, way) for way in females_ways]


def with_added(numbers, count, more):
    if count == 0:
        return numbers
    return [number + count * step for number, step in zip(numbers, more)]


def least_from(males_kin, moves, counts, left, costs):
    """Give the least of the shares in which the first males have these counts, and the others have what is left.

    costs: for each of the females' ways how akin all are, but for the males among one another, if the last male has
    all that is left. The answer: how akin all are; the males' counts; the place of the females' way."""
    male = len(counts)
    if male == len(moves):
        return least_of_ways(males_kin, counts + (left,), costs)
    found = []
    for count in range(left, -1, -1):
        moved = with_added(costs, count, moves[male])
        found.append(least_from(males_kin, moves, counts + (count,), left - count, moved))
    # The first of like ones is what min gives, and what is promised.
    return min(found, key=akin_in)


def least_of_ways(males_kin, counts, costs):
    least = min(costs)
    return (least + kin_among(males_kin, counts), counts, costs.index(least))


def akin_in(found):
    return found[0]
