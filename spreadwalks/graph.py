"""The calls on one graph, and what they answer."""

from spreadwalks.matrix import copied, never_below_zero, walks, zeros

NO_PLACE = -2
NOT_BEGUN = -11
WRONG_NUMBER = -22
TOO_MANY_LINES = -28
NOT_EVEN = -33

MOST_PLACES = 10
MOST_LINES_BETWEEN = 9
MOST_LINES_FROM = 12
MOST_LINES_LAID = 3
MOST_POWER = 4
MOST_Q = 100

BEGIN = 0

# For each call, by its number: how many whole numbers it has, then how many rows.
# Calls that are not built yet stand here too: -11 is answered to them as well.
FORMS = (
    (1, 0),  # begin
    (3, 0),  # line
    (1, 0),  # ring
    (1, 0),  # whole
    (0, 0),  # cube
    (1, 0),  # power
    (1, 0),  # degree
    (0, 0),  # even
    (2, 0),  # spreads
    (1, 0),  # least
    (0, 2),  # between
    (1, 1),  # staying
    (3, 1),  # bound
    (2, 0),  # led_from
    (4, 0),  # uneven
    (0, 0),  # thinnest
    (0, 1),  # leaving
    (1, 0),  # row
)


class Graph:
    """How many lines there are between each two places; no places before a begin that is answered 0."""

    def __init__(self):
        self.lines = []


class Reader:
    """Goes through a list of calls, number by number, and leaves the list as it is."""

    def __init__(self, calls):
        self.calls = calls
        self.at = 0

    def ended(self):
        """Whether all numbers are read."""
        return self.at >= len(self.calls)

    def read_number(self):
        """The next number."""
        number = self.calls[self.at]
        self.at += 1
        return number

    def read_numbers(self, size):
        """The next numbers, that many, as a new list."""
        numbers = self.calls[self.at:self.at + size]
        self.at += size
        return numbers

    def read_given(self, call):
        """What stands behind the call's number: its whole numbers, then each of its rows as a list."""
        given = self.read_numbers(FORMS[call][0])
        for row in range(FORMS[call][1]):
            size = self.read_number()
            given.append(self.read_numbers(size))
        return given


def is_place(graph, u):
    """Whether there is a place u."""
    return 0 <= u < len(graph.lines)


def too_many_from_some(lines):
    """Whether more lines lead from some place than may."""
    return any([sum(row) > MOST_LINES_FROM for row in lines])


def set_lines(lines, u, v, c):
    """Put c lines between u and v; they go both ways."""
    lines[u][v] = c
    lines[v][u] = c


def common_degree(lines):
    """How many lines lead from each place, if the graph is even, else 0."""
    degrees = [sum(row) for row in lines]
    if min(degrees) == max(degrees):
        return degrees[0]
    return 0


def spread_matrix(lines, p, q):
    """The matrix that is never below 0 just if the even graph spreads by p to q."""
    n = len(lines)
    d = common_degree(lines)
    matrix = []
    for u, counts in enumerate(walks(lines, 2)):
        row = [q * q * d * d - q * q * n * count for count in counts]
        row[u] += p * p * d * d * n
        matrix.append(row)
    return matrix


def are_shares(p, q):
    """Whether p and q are such that a graph may be asked whether it spreads by p to q."""
    return 1 <= q <= MOST_Q and 0 <= p <= q


def begin(graph, given):
    """Answer begin: n."""
    n = given[0]
    if not 1 <= n <= MOST_PLACES:
        return [WRONG_NUMBER]
    graph.lines = zeros(n)
    return [0]


def line(graph, given):
    """Answer line: u, v, c."""
    u = given[0]
    v = given[1]
    c = given[2]
    if not is_place(graph, u) or not is_place(graph, v):
        return [NO_PLACE]
    if not 0 <= c <= MOST_LINES_BETWEEN:
        return [WRONG_NUMBER]
    changed = copied(graph.lines)
    set_lines(changed, u, v, c)
    if too_many_from_some(changed):
        return [TOO_MANY_LINES]
    before = graph.lines[u][v]
    graph.lines = changed
    return [before]


def ring(graph, given):
    """Answer ring: c."""
    c = given[0]
    n = len(graph.lines)
    if not 1 <= c <= MOST_LINES_LAID or n < 3:
        return [WRONG_NUMBER]
    laid = zeros(n)
    for u in range(n):
        set_lines(laid, u, (u + 1) % n, c)
    graph.lines = laid
    return [0]


def whole(graph, given):
    """Answer whole: c."""
    c = given[0]
    n = len(graph.lines)
    if not 1 <= c <= MOST_LINES_LAID or c * (n - 1) > MOST_LINES_FROM or n == 1:
        return [WRONG_NUMBER]
    laid = zeros(n)
    for u in range(n):
        for v in range(u):
            set_lines(laid, u, v, c)
    graph.lines = laid
    return [0]


def cube(graph, given):
    """Answer cube, to which nothing is given."""
    n = len(graph.lines)
    if n not in (2, 4, 8):
        return [WRONG_NUMBER]
    laid = zeros(n)
    for u in range(n):
        for v in range(u):
            if (u ^ v) in (1, 2, 4):
                set_lines(laid, u, v, 1)
    graph.lines = laid
    return [0]


def power(graph, given):
    """Answer power: k."""
    k = given[0]
    if not 1 <= k <= MOST_POWER:
        return [WRONG_NUMBER]
    # Walks there and back are kept, as lines from a place to itself.
    counts = walks(graph.lines, k)
    if too_many_from_some(counts):
        return [TOO_MANY_LINES]
    graph.lines = counts
    return [0]


def degree(graph, given):
    """Answer degree: u."""
    u = given[0]
    if not is_place(graph, u):
        return [NO_PLACE]
    return [sum(graph.lines[u])]


def even(graph, given):
    """Answer even, to which nothing is given."""
    d = common_degree(graph.lines)
    if d == 0:
        return [NOT_EVEN]
    return [d]


def spreads(graph, given):
    """Answer spreads: p, q."""
    p = given[0]
    q = given[1]
    if not are_shares(p, q):
        return [WRONG_NUMBER]
    if common_degree(graph.lines) == 0:
        return [NOT_EVEN]
    if never_below_zero(spread_matrix(graph.lines, p, q)):
        return [1]
    return [0]


# What answers each call, by the call's number.
CALLS = {
    0: begin,
    1: line,
    2: ring,
    3: whole,
    4: cube,
    5: power,
    6: degree,
    7: even,
    8: spreads,
}


def answer(graph, call, given):
    """What one call answers, as a list of numbers."""
    if call != BEGIN and len(graph.lines) == 0:
        return [NOT_BEGUN]
    return CALLS[call](graph, given)


def answers(calls):
    """What the calls answer on a new graph: for each, how many numbers, then these."""
    graph = Graph()
    reader = Reader(calls)
    told = []
    while not reader.ended():
        call = reader.read_number()
        numbers = answer(graph, call, reader.read_given(call))
        told.append(len(numbers))
        told.extend(numbers)
    return told
