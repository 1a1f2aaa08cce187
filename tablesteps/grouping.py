"""Grouping: a row for each group, and what is made over its rows."""

from tablesteps.exact import mean_of, sum_of
from tablesteps.ordering import compare_cells
from tablesteps.rows import cells_at, groups_of, place_of, places_of


def least_of(cells, sort):
    least = cells[0]
    for cell in cells:
        if compare_cells(cell, least, sort) < 0:
            least = cell
    return least


def greatest_of(cells, sort):
    greatest = cells[0]
    for cell in cells:
        if compare_cells(cell, greatest, sort) > 0:
            greatest = cell
    return greatest


# Over cells of which none is none.
def made_over(what, cells, sort):
    if what == "values":
        return len(cells)
    if len(cells) == 0:
        return None
    if what == "sum":
        return sum_of(cells, sort)
    if what == "mean":
        return mean_of(cells, sort)
    if what == "least":
        return least_of(cells, sort)
    return greatest_of(cells, sort)


def made_of(made, rows, columns):
    if made.what == "rows":
        return len(rows)
    place = place_of(made.column, columns)
    cells = [row[place] for row in rows]
    if made.what == "first" or made.what == "last":
        if len(cells) == 0:
            return None
        return cells[0] if made.what == "first" else cells[-1]
    return made_over(made.what, [cell for cell in cells if cell is not None], columns[place][1])


# Without columns all rows are one group, even if there are none.
def rows_of_groups(names, table):
    if len(names) == 0:
        return [table.rows]
    groups = groups_of(table.rows, places_of(names, table.columns))
    return [[table.rows[number] for number in group] for group in groups]


def grouped_row(step, rows, columns):
    cells = [made_of(made, rows, columns) for made in step.made]
    if len(step.names) == 0:
        return cells
    return list(cells_at(rows[0], places_of(step.names, columns))) + cells


def grouped_rows(step, table):
    return [grouped_row(step, rows, table.columns) for rows in rows_of_groups(step.names, table)]
