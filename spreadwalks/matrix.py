"""Square matrices of whole numbers, as lists of rows; a graph's lines, counted between each two places, are one."""


def zeros(n):
    """n rows of n zeros."""
    return [[0] * n for place in range(n)]


def identity(n):
    """Ones where row and column are one, else zeros."""
    rows = zeros(n)
    for place in range(n):
        rows[place][place] = 1
    return rows


def copied(matrix):
    """The same numbers in new rows."""
    return [list(row) for row in matrix]


def column(matrix, place):
    """The numbers that stand at one place of each row."""
    return [row[place] for row in matrix]


def dot(ones, others):
    """The sum of the products of what stands at the same place."""
    return sum([one * other for one, other in zip(ones, others)])


def product(first, second):
    """The matrix product of two matrices of one size."""
    columns = [column(second, place) for place in range(len(second))]
    rows = []
    for row in first:
        rows.append([dot(row, other) for other in columns])
    return rows


def walks(lines, k):
    """How many walks of k lines lead from each place to each, by how many lines there are between them."""
    counts = identity(len(lines))
    for step in range(k):
        counts = product(counts, lines)
    return counts


def behind_first(matrix):
    """The matrix without its first row and its first column."""
    return [row[1:] for row in matrix[1:]]


def cleared_row(row, first, divisor):
    """What is left of a row, behind its first number, once the first row has cleared that number."""
    return [(first[0] * row[place] - row[0] * first[place]) // divisor for place in range(1, len(row))]


def never_below_zero(matrix):
    """Whether a symmetric matrix gives 0 or more, whatever numbers stand at its places."""
    rest = copied(matrix)
    # What the step before cleared by divides all that is left (Bareiss):
    # so numbers stay whole, and as short as the matrix's own determinants.
    divisor = 1
    while rest:
        first = rest[0]
        if first[0] < 0:
            return False
        if first[0] > 0:
            rest = [cleared_row(row, first, divisor) for row in rest[1:]]
            divisor = first[0]
        elif any([number != 0 for number in first]):
            # A place that gives 0 by itself goes below 0 together with a place that it is bound to.
            return False
        else:
            rest = behind_first(rest)
    return True


def raised(base, k):
    """The base to the power of k; to the power of 0 it is 1, whatever the base."""
    number = 1
    for step in range(k):
        number *= base
    return number


def common_degree(lines):
    """How many lines lead from each place, if the graph is even, else 0."""
    degrees = [sum(row) for row in lines]
    if min(degrees) == max(degrees):
        return degrees[0]
    return 0


def spread_matrix(lines, p, q):
    """The matrix that is never below 0 just if the even graph spreads by p to q."""
    n = len(lines)
    d = common_degree(lines)
    matrix = []
    for u, counts in enumerate(walks(lines, 2)):
        row = [q * q * d * d - q * q * n * count for count in counts]
        row[u] += p * p * d * d * n
        matrix.append(row)
    return matrix


def spreads_by(lines, p, q):
    """Whether the even graph spreads by p to q."""
    return never_below_zero(spread_matrix(lines, p, q))


def least_share(lines, q):
    """The least p such that the even graph spreads by p to q."""
    low = 0
    # An even graph spreads by q to q, and where it spreads by p it does so by each greater one.
    high = q
    while low < high:
        middle = (low + high) // 2
        if spreads_by(lines, middle, q):
            high = middle
        else:
            low = middle + 1
    return low


def lines_between(lines, ones, others):
    """How many lines lead from one of the first places to one of the others, counted from each first one."""
    count = 0
    for u in ones:
        count += sum([lines[u][v] for v in others])
    return count


def others_than(lines, places):
    """All places but these."""
    return [u for u in range(len(lines)) if u not in places]


def staying_walks(lines, places, k):
    """How many walks of k lines that stay among these places begin at each place."""
    inside = [1 if u in places else 0 for u in range(len(lines))]
    counts = inside
    for step in range(k):
        counts = [inside[u] * dot(lines[u], counts) for u in range(len(lines))]
    return counts


def sets_of_places(n):
    """All sets of n places, as rising lists; each stands at its number, to which place u counts 2 to the power of u."""
    sets = [[]]
    for u in range(n):
        sets = sets + [places + [u] for places in sets]
    return sets
