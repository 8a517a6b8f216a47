"""Tables of whole numbers: shares that keep each row to its bound, or weights that show there are none."""

from pursehall.exact import NOUGHT, common_divisor, fraction


def with_rests(rows, bounds):
    # Behind its own numbers each row gets one for its rest, what is left up to its bound, and
    # the bound at last: so it is an equation of numbers that are all from nought on.
    table = []
    for number, row in enumerate(rows):
        rests = [0 for other in rows]
        rests[number] = 1
        table.append(row + rests + [bounds[number]])
    return table


def row_below(table, solved):
    # Of the rows whose bound is below nought, the one solved for the first column.
    found = None
    for number, row in enumerate(table):
        if row[-1] < 0 and (found is None or solved[number] < solved[found]):
            found = number
    return found


def column_below(row):
    for column in range(len(row) - 1):
        if row[column] < 0:
            return column
    return None


def lowered(row):
    # Without their common divisor the numbers stay small. It is above 0, as no row is all nought.
    divisor = 0
    for number in row:
        divisor = common_divisor(divisor, number)
    return [number // divisor for number in row]


def solved_for(table, at, column):
    # The column then stands in that row alone. Rows are only ever multiplied by numbers above
    # 0, but that one, which is turned round, as its number in the column is below 0.
    turned = [-number for number in table[at]]
    fresh = []
    for number, row in enumerate(table):
        if number == at:
            fresh.append(turned)
        else:
            fresh.append(lowered([one * turned[column] - row[column] * other for one, other in zip(row, turned)]))
    return fresh


def shares_told(table, solved, many):
    shares = [NOUGHT for column in range(many)]
    for number, column in enumerate(solved):
        if column < many:
            shares[column] = fraction(table[number][-1], table[number][column])
    return shares


def shares_or_weights(rows, bounds):
    # Rows are lists of equally many whole numbers. Either ("shares", fractions from nought on),
    # one for each column: each row times them comes to its bound at most. Or ("weights", whole
    # numbers from nought on), one for each row: each column times them comes to nought or more,
    # but the bounds times them to less than nought, so that there are no such shares.
    # It ends, as always the first row and the first column that will do are taken: so none of
    # the finitely many choices of solved columns comes twice (Bland's rule).
    many = len(rows[0])
    table = with_rests(rows, bounds)
    solved = [many + number for number in range(len(rows))]
    at = row_below(table, solved)
    while at is not None:
        column = column_below(table[at])
        if column is None:
            return ("weights", table[at][many:-1])
        table = solved_for(table, at, column)
        solved[at] = column
        at = row_below(table, solved)
    return ("shares", shares_told(table, solved, many))
