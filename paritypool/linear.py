"""Systems of linear equations modulo the prime."""

from paritypool.errors import InvalidArgument
from paritypool.field import inverse
from paritypool.limits import PRIME


def check_system(rows, right):
    """Raise the errors of solve."""
    if not rows:
        raise InvalidArgument("there is no row")
    columns = len(rows[0])
    for row in rows:
        if len(row) != columns:
            raise InvalidArgument("the rows have different lengths")
    if columns == 0:
        raise InvalidArgument("the rows have no coefficient")
    if len(right) != len(rows):
        raise InvalidArgument("there is not one right side for each row")


def combination(rows, right, at):
    """Return the row at the index as a combination of rows.

    That is a list of its coefficients, of its right side, and of the word by which each of the rows is
    multiplied in it. The last words tell where a contradiction comes from.
    """
    factors = [0] * len(rows)
    factors[at] = 1
    return [word % PRIME for word in [*rows[at], right[at], *factors]]


def pivot_index(lines, first, column):
    """Return the lowest index from first on whose line is not 0 in the column, or None."""
    for at in range(first, len(lines)):
        if lines[at][column] != 0:
            return at
    return None


def without(line, column, pivot):
    """Return the line less the multiple of the pivot line that makes it 0 in the column."""
    factor = line[column]
    return [(word - factor * other) % PRIME for word, other in zip(line, pivot)]


def eliminate(lines, target, chosen, column):
    """Move the chosen line to the target, make it 1 in the column, and make all other lines 0 there."""
    lines[target], lines[chosen] = lines[chosen], lines[target]
    scale = inverse(lines[target][column])
    pivot = [word * scale % PRIME for word in lines[target]]
    lines[target] = pivot
    for at in range(len(lines)):
        if at != target:
            lines[at] = without(lines[at], column, pivot)


def reduce_lines(lines, columns):
    """Eliminate column by column; return the column of each pivot, which stand in the first lines."""
    pivots = []
    for column in range(columns):
        chosen = pivot_index(lines, len(pivots), column)
        if chosen is not None:
            eliminate(lines, len(pivots), chosen, column)
            pivots.append(column)
    return pivots


def solve(rows, right):
    """Return a solution and None, or None and a refutation."""
    check_system(rows, right)
    columns = len(rows[0])
    lines = [combination(rows, right, at) for at in range(len(rows))]
    pivots = reduce_lines(lines, columns)
    for line in lines[len(pivots):]:
        # Such a line is 0 in every column, so its right side must be 0, too.
        if line[columns] != 0:
            scale = inverse(line[columns])
            return None, [word * scale % PRIME for word in line[columns + 1:]]
    solution = [0] * columns
    for at, column in enumerate(pivots):
        solution[column] = lines[at][columns]
    return solution, None
