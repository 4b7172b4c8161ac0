"""Rows of laws solved without fractions, for polynomials in s."""

from wirequotients.polynomials import divided, multiplied, subtracted


class Solution:
    """The unknowns, each its top over the laws' determinant; the sign of all these together is left open."""

    def __init__(self, determinant, tops):
        self.determinant = determinant
        self.tops = tops


def solved(rows):
    """The one solution of as many laws as unknowns, or None if their determinant is 0."""
    table = [list(row) for row in rows]
    before = [1]
    for k in range(len(table)):
        chosen = row_to_solve_by(table, k)
        if chosen is None:
            return None
        taken = table[chosen]
        table[chosen] = table[k]
        table[k] = taken
        table = cleared(table, k, before)
        before = taken[k]
    return Solution(before, [row[-1] for row in table])


def row_to_solve_by(table, k):
    """The first row from k on in which unknown k occurs, or None."""
    for place in range(k, len(table)):
        if table[place][k]:
            return place
    return None


def cleared(table, k, before):
    """The table with unknown k in row k alone.

    Every entry is a minor of the first table, so the pivot of the step before goes into it: the entries stay whole
    and small. At the end each row holds its unknown's top as its right side.
    """
    by = table[k]
    result = []
    for place, row in enumerate(table):
        if place == k:
            result.append(row)
        else:
            result.append(cleared_row(row, by, k, before))
    return result


def cleared_row(row, by, k, before):
    """The row without unknown k; the unknowns before k are no longer looked at and stay as they are."""
    result = list(row)
    factor = row[k]
    for place in range(k + 1, len(row)):
        kept = multiplied(by[k], row[place])
        result[place] = divided(subtracted(kept, multiplied(factor, by[place])), before)
    return result
