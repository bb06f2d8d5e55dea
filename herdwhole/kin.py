"""How akin animals are: the chance that a gene drawn of each are copies of one gene, in parts of 2 ** 48."""

# 2 ** 48. A book of 24 animals halves at most 24 times, so every halving here comes out even.
CERTAIN = 281474976710656


def add_to_table(table, sire, dam):
    """Make the table, of each animal with each, one animal greater; from outside both parents are None."""
    row = kin_with_earlier(table, sire, dam)
    for other in range(len(table)):
        table[other].append(row[other])
    row.append(kin_with_itself(table, sire, dam))
    table.append(row)


def kin_with_earlier(table, sire, dam):
    if sire is None:
        return [0] * len(table)
    return [(table[sire][other] + table[dam][other]) // 2 for other in range(len(table))]


def kin_with_itself(table, sire, dam):
    if sire is None:
        return CERTAIN // 2
    return (CERTAIN + table[sire][dam]) // 2


def kin_to_all(table, animal, others):
    return sum([table[animal][other] for other in others])


def kin_between(table, animals, others):
    """Give a row for each animal: how akin it is to each of the others."""
    rows = []
    for animal in animals:
        rows.append([table[animal][other] for other in others])
    return rows
