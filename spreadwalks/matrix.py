"""Square matrices of whole numbers, as lists of rows."""


def zeros(n):
    """n rows of n zeros."""
    return [[0] * n for place in range(n)]


def identity(n):
    """Ones where row and column are one, else zeros."""
    rows = zeros(n)
    for place in range(n):
        rows[place][place] = 1
    return rows


def copied(matrix):
    """The same numbers in new rows."""
    return [list(row) for row in matrix]


def column(matrix, place):
    """The numbers that stand at one place of each row."""
    return [row[place] for row in matrix]


def dot(ones, others):
    """The sum of the products of what stands at the same place."""
    return sum([one * other for one, other in zip(ones, others)])


def product(first, second):
    """The matrix product of two matrices of one size."""
    columns = [column(second, place) for place in range(len(second))]
    rows = []
    for row in first:
        rows.append([dot(row, other) for other in columns])
    return rows


def walks(lines, k):
    """How many walks of k lines lead from each place to each, by how many lines there are between them."""
    counts = identity(len(lines))
    for step in range(k):
        counts = product(counts, lines)
    return counts


def behind_first(matrix):
    """The matrix without its first row and its first column."""
    return [row[1:] for row in matrix[1:]]


def cleared_row(row, first, divisor):
    """What is left of a row, behind its first number, once the first row has cleared that number."""
    return [(first[0] * row[place] - row[0] * first[place]) // divisor for place in range(1, len(row))]


def never_below_zero(matrix):
    """Whether a symmetric matrix gives 0 or more, whatever numbers stand at its places."""
    rest = copied(matrix)
    # What the step before cleared by divides all that is left (Bareiss):
    # so numbers stay whole, and as short as the matrix's own determinants.
    divisor = 1
    while rest:
        first = rest[0]
        if first[0] < 0:
            return False
        if first[0] > 0:
            rest = [cleared_row(row, first, divisor) for row in rest[1:]]
            divisor = first[0]
        elif any([number != 0 for number in first]):
            # A place that gives 0 by itself goes below 0 together with a place that it is bound to.
            return False
        else:
            rest = behind_first(rest)
    return True
