"""Comparing two tables: whether they have the same columns and the same rows."""


# How often each row is there; a tuple, so that it can be looked up.
def counts_of(rows):
    counts = {}
    for row in rows:
        cells = tuple(row)
        counts[cells] = counts.get(cells, 0) + 1
    return counts


# Only under the same columns are cells of one sort side by side, so the columns are asked first.
def are_same(one, other, in_order):
    if one.columns != other.columns:
        return False
    if in_order:
        return one.rows == other.rows
    return counts_of(one.rows) == counts_of(other.rows)
