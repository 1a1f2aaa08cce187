"""The order of cells and of rows."""

from tablesteps.exact import compare_fractions


# How one column is put into order: its place in the row, its sort, and whether down.
class Ranking:
    def __init__(self, place, sort, down):
        self.place = place
        self.sort_word = sort
        self.down = down


# Below 0 if one comes first, 0 if both are the same, above 0 if other comes first.
def compare_cells(one, other, sort):
    if one == other:
        return 0
    if one is None:
        return -1
    if other is None:
        return 1
    if sort == "fraction":
        return compare_fractions(one, other)
    return -1 if one < other else 1


def compare_rows(one, other, rankings):
    for ranking in rankings:
        given = compare_cells(one[ranking.place], other[ranking.place], ranking.sort_word)
        if given != 0:
            return -given if ranking.down else given
    return 0


# Of rows that are alike the first one's stays ahead, so that the order is steady.
def merge(first, second, rows, rankings):
    merged = []
    place = 0
    for number in second:
        while place < len(first) and compare_rows(rows[first[place]], rows[number], rankings) <= 0:
            merged.append(first[place])
            place = place + 1
        merged.append(number)
    return merged + first[place:]


# The numbers of the rows, in the order of the rows.
def in_order(rows, rankings):
    runs = [[number] for number in range(len(rows))]
    while len(runs) > 1:
        merged = [merge(runs[k - 1], runs[k], rows, rankings) for k in range(1, len(runs), 2)]
        # Without a neighbour the last one waits for the next round.
        runs = merged + runs[2 * len(merged):]
    return runs[0] if len(runs) > 0 else []
