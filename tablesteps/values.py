"""The value of an expression in a row: a cell, worked out part by part."""

from tablesteps.cells import LONGEST_TEXT
from tablesteps.exact import TooLarge, add_fractions, as_fraction, compare_fractions, lowest_terms
from tablesteps.exact import multiply_fractions, negative_fraction, turned_over, within_fraction, within_whole


def wholes_worked(sign, one, other):
    if sign == "+":
        return within_whole(one + other)
    if sign == "-":
        return within_whole(one - other)
    return within_whole(one * other)


def fractions_worked(sign, one, other):
    if sign == "+":
        given = add_fractions(one, other)
    elif sign == "-":
        given = add_fractions(one, negative_fraction(other))
    elif sign == "*":
        given = multiply_fractions(one, other)
    else:
        given = multiply_fractions(one, turned_over(other))
    return within_fraction(lowest_terms(given))


def numbers_worked(sign, taken, cells):
    if sign != "/" and "fraction" not in taken:
        return wholes_worked(sign, cells[0], cells[1])
    one = as_fraction(cells[0], taken[0])
    other = as_fraction(cells[1], taken[1])
    if sign == "/" and other[0] == 0:
        return None
    return fractions_worked(sign, one, other)


def negative(cell, sort):
    return negative_fraction(cell) if sort == "fraction" else -cell


def joined(one, other):
    if len(one) + len(other) > LONGEST_TEXT:
        raise TooLarge()
    return one + other


def tested(sign, taken, cells):
    one = cells[0]
    other = cells[1]
    if "fraction" in taken:
        one = compare_fractions(as_fraction(one, taken[0]), as_fraction(other, taken[1]))
        other = 0
    if sign == "==":
        return one == other
    return one < other if sign == "<" else one <= other


# What is none where one of the cells is none; none of them is here.
def cell_of_all(sign, taken, cells):
    if sign in ("+", "-", "*", "/"):
        return numbers_worked(sign, taken, cells)
    if sign in ("==", "<", "<="):
        return tested(sign, taken, cells)
    if sign == "++":
        return joined(cells[0], cells[1])
    if sign == "negative":
        return negative(cells[0], taken[0])
    if sign == "length":
        return len(cells[0])
    return not cells[0]


# The truth that decides alone, whatever the other one is, is false for "and", true for "or".
def truths_worked(one, other, decides):
    if one == decides or other == decides:
        return decides
    if one is None or other is None:
        return None
    return not decides


def cell_of_sign(sign, taken, cells):
    if sign == "none":
        return cells[0] is None
    if sign == "and":
        return truths_worked(cells[0], cells[1], False)
    if sign == "or":
        return truths_worked(cells[0], cells[1], True)
    if sign == "if":
        return cells[1] if cells[0] is True else cells[2]
    if sign == "else":
        return cells[1] if cells[0] is None else cells[0]
    if None in cells:
        return None
    return cell_of_all(sign, taken, cells)


def cell_of_part(part, taken, cells, row):
    if part[0] == "sign":
        return cell_of_sign(part[1], taken, cells)
    if part[0] == "name":
        return row[part[1]]
    return part[1]


# row holds the cells by their names, all_taken the sorts that each part takes.
def value_of(expression, all_taken, row):
    at_hand = []
    for part, taken in zip(expression, all_taken):
        left = len(at_hand) - len(taken)
        cells = at_hand[left:]
        at_hand = at_hand[:left] + [cell_of_part(part, taken, cells, row)]
    return at_hand[0]
