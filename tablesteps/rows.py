"""Rows: finding columns in them, and putting those together that have the same cells."""

from tablesteps.ordering import Ranking


def place_of(name, columns):
    return [column[0] for column in columns].index(name)


def places_of(names, columns):
    return [place_of(name, columns) for name in names]


def rankings_of(ordering, columns):
    sorts = dict(columns)
    return [Ranking(place_of(key.name, columns), sorts[key.name], key.down) for key in ordering]


# A tuple, so that it can be looked up.
def cells_at(row, places):
    return tuple([row[place] for place in places])


# The numbers of the rows, put together by their cells in the places, in the order of their first rows.
def groups_of(rows, places):
    groups = {}
    for number, row in enumerate(rows):
        groups.setdefault(cells_at(row, places), []).append(number)
    return list(groups.values())
