"""The calls on one graph, and what they answer."""

from spreadwalks.matrix import common_degree, copied, dot, least_share, lines_between, others_than, raised
from spreadwalks.matrix import sets_of_places, spreads_by, staying_walks, walks, zeros

NO_PLACE = -2
NOT_BEGUN = -11
WRONG_NUMBER = -22
TOO_MANY_LINES = -28
NOT_EVEN = -33
ONE_PLACE = -33

MOST_PLACES = 10
MOST_LINES_BETWEEN = 9
MOST_LINES_FROM = 12
MOST_LINES_LAID = 3
MOST_POWER = 4
MOST_STEPS = 12
MOST_Q = 100

BEGIN = 0

# For each call, by its number: how many whole numbers it has, then how many rows.
FORMS = (
    (1, 0),  # begin
    (3, 0),  # line
    (1, 0),  # ring
    (1, 0),  # whole
    (0, 0),  # cube
    (1, 0),  # power
    (1, 0),  # degree
    (0, 0),  # even
    (2, 0),  # spreads
    (1, 0),  # least
    (0, 2),  # between
    (1, 1),  # staying
    (3, 1),  # bound
    (2, 0),  # led_from
    (4, 0),  # uneven
    (0, 0),  # thinnest
    (0, 1),  # leaving
    (1, 0),  # row
)


class Graph:
    """How many lines there are between each two places; no places before a begin that is answered 0."""

    def __init__(self):
        self.lines = []


class Reader:
    """Goes through a list of calls, number by number, and leaves the list as it is."""

    def __init__(self, calls):
        self.calls = calls
        self.at = 0

    def ended(self):
        """Whether all numbers are read."""
        return self.at >= len(self.calls)

    def read_number(self):
        """The next number."""
        number = self.calls[self.at]
        self.at += 1
        return number

    def read_numbers(self, size):
        """The next numbers, that many, as a new list."""
        numbers = self.calls[self.at:self.at + size]
        self.at += size
        return numbers

    def read_given(self, call):
        """What stands behind the call's number: its whole numbers, then each of its rows as a list."""
        given = self.read_numbers(FORMS[call][0])
        for part in range(FORMS[call][1]):
            size = self.read_number()
            given.append(self.read_numbers(size))
        return given


def is_place(graph, u):
    """Whether there is a place u."""
    return 0 <= u < len(graph.lines)


def are_places(graph, places):
    """Whether these are places, rising: so each stands there once."""
    if not all([is_place(graph, u) for u in places]):
        return False
    return all([u < v for u, v in zip(places, places[1:])])


def too_many_from_some(lines):
    """Whether more lines lead from some place than may."""
    return any([sum(counts) > MOST_LINES_FROM for counts in lines])


def set_lines(lines, u, v, c):
    """Put c lines between u and v; they go both ways."""
    lines[u][v] = c
    lines[v][u] = c


def are_shares(p, q):
    """Whether p and q are such that a graph may be asked whether it spreads by p to q."""
    return 1 <= q <= MOST_Q and 0 <= p <= q


def are_steps(k):
    """Whether walks of k lines may be asked for."""
    return 0 <= k <= MOST_STEPS


def begin(graph, given):
    """Answer begin: n."""
    n = given[0]
    if not 1 <= n <= MOST_PLACES:
        return [WRONG_NUMBER]
    graph.lines = zeros(n)
    return [0]


def line(graph, given):
    """Answer line: u, v, c."""
    u = given[0]
    v = given[1]
    c = given[2]
    if not is_place(graph, u) or not is_place(graph, v):
        return [NO_PLACE]
    if not 0 <= c <= MOST_LINES_BETWEEN:
        return [WRONG_NUMBER]
    changed = copied(graph.lines)
    set_lines(changed, u, v, c)
    if too_many_from_some(changed):
        return [TOO_MANY_LINES]
    before = graph.lines[u][v]
    graph.lines = changed
    return [before]


def ring(graph, given):
    """Answer ring: c."""
    c = given[0]
    n = len(graph.lines)
    if not 1 <= c <= MOST_LINES_LAID or n < 3:
        return [WRONG_NUMBER]
    laid = zeros(n)
    for u in range(n):
        set_lines(laid, u, (u + 1) % n, c)
    graph.lines = laid
    return [0]


def whole(graph, given):
    """Answer whole: c."""
    c = given[0]
    n = len(graph.lines)
    if not 1 <= c <= MOST_LINES_LAID or c * (n - 1) > MOST_LINES_FROM or n == 1:
        return [WRONG_NUMBER]
    laid = zeros(n)
    for u in range(n):
        for v in range(u):
            set_lines(laid, u, v, c)
    graph.lines = laid
    return [0]


def cube(graph, given):
    """Answer cube, to which nothing is given."""
    n = len(graph.lines)
    if n not in (2, 4, 8):
        return [WRONG_NUMBER]
    laid = zeros(n)
    for u in range(n):
        for v in range(u):
            if (u ^ v) in (1, 2, 4):
                set_lines(laid, u, v, 1)
    graph.lines = laid
    return [0]


def power(graph, given):
    """Answer power: k."""
    k = given[0]
    if not 1 <= k <= MOST_POWER:
        return [WRONG_NUMBER]
    # Walks there and back are kept, as lines from a place to itself.
    counts = walks(graph.lines, k)
    if too_many_from_some(counts):
        return [TOO_MANY_LINES]
    graph.lines = counts
    return [0]


def degree(graph, given):
    """Answer degree: u."""
    u = given[0]
    if not is_place(graph, u):
        return [NO_PLACE]
    return [sum(graph.lines[u])]


def even(graph, given):
    """Answer even, to which nothing is given."""
    d = common_degree(graph.lines)
    if d == 0:
        return [NOT_EVEN]
    return [d]


def spreads(graph, given):
    """Answer spreads: p, q."""
    p = given[0]
    q = given[1]
    if not are_shares(p, q):
        return [WRONG_NUMBER]
    if common_degree(graph.lines) == 0:
        return [NOT_EVEN]
    return [1 if spreads_by(graph.lines, p, q) else 0]


def least(graph, given):
    """Answer least: q."""
    q = given[0]
    # p 0 is right for each q that is.
    if not are_shares(0, q):
        return [WRONG_NUMBER]
    if common_degree(graph.lines) == 0:
        return [NOT_EVEN]
    return [least_share(graph.lines, q)]


def between(graph, given):
    """Answer between: two rows of places."""
    ones = given[0]
    others = given[1]
    if not are_places(graph, ones) or not are_places(graph, others):
        return [WRONG_NUMBER]
    count = lines_between(graph.lines, ones, others)
    d = common_degree(graph.lines)
    if d == 0:
        return [count]
    return [count, abs(len(graph.lines) * count - d * len(ones) * len(others))]


def staying(graph, given):
    """Answer staying: k, a row of places."""
    k = given[0]
    places = given[1]
    if not are_steps(k) or not are_places(graph, places):
        return [WRONG_NUMBER]
    counts = staying_walks(graph.lines, places, k)
    return [sum(counts)] + counts


def bound(graph, given):
    """Answer bound: k, p, q, a row of places."""
    k = given[0]
    p = given[1]
    q = given[2]
    places = given[3]
    if not are_steps(k) or not are_shares(p, q) or not are_places(graph, places):
        return [WRONG_NUMBER]
    d = common_degree(graph.lines)
    if d == 0:
        return [NOT_EVEN]
    n = len(graph.lines)
    b = len(places)
    spread = 1 if spreads_by(graph.lines, p, q) else 0
    return [spread, raised(d, k) * b * raised(b * q + p * (n - b), k), raised(n * q, k)]


def led_from(graph, given):
    """Answer from: u, k."""
    u = given[0]
    k = given[1]
    if not is_place(graph, u):
        return [NO_PLACE]
    if not are_steps(k):
        return [WRONG_NUMBER]
    return [len(graph.lines)] + walks(graph.lines, k)[u]


def uneven(graph, given):
    """Answer uneven: u, k, p, q."""
    u = given[0]
    k = given[1]
    p = given[2]
    q = given[3]
    if not is_place(graph, u):
        return [NO_PLACE]
    if not are_steps(k) or not are_shares(p, q):
        return [WRONG_NUMBER]
    d = common_degree(graph.lines)
    if d == 0:
        return [NOT_EVEN]
    n = len(graph.lines)
    off = [n * count - raised(d, k) for count in walks(graph.lines, k)[u]]
    squares = dot(off, off)
    most = raised(p, 2 * k) * raised(d, 2 * k) * n * (n - 1)
    return [1 if squares * raised(q, 2 * k) <= most else 0, squares]


def count_leaving(graph, places):
    """How many lines lead from these places to others."""
    return lines_between(graph.lines, places, others_than(graph.lines, places))


def thinnest(graph, given):
    """Answer thinnest, to which nothing is given."""
    n = len(graph.lines)
    if n == 1:
        return [ONE_PLACE]
    thin = []
    for number, places in enumerate(sets_of_places(n)):
        size = len(places)
        if 1 <= size and 2 * size <= n:
            count = count_leaving(graph, places)
            # Sets come by rising number: of like ones the first one is kept.
            if not thin or count * thin[1] < thin[0] * size:
                thin = [count, size, number]
    return thin


def leaving(graph, given):
    """Answer leaving: a row of places."""
    places = given[0]
    if not are_places(graph, places):
        return [WRONG_NUMBER]
    return [count_leaving(graph, places), len(places)]


def row(graph, given):
    """Answer row: u."""
    u = given[0]
    if not is_place(graph, u):
        return [NO_PLACE]
    return [sum(graph.lines[u])] + graph.lines[u]


# What answers each call, by the call's number.
CALLS = {
    0: begin,
    1: line,
    2: ring,
    3: whole,
    4: cube,
    5: power,
    6: degree,
    7: even,
    8: spreads,
    9: least,
    10: between,
    11: staying,
    12: bound,
    13: led_from,
    14: uneven,
    15: thinnest,
    16: leaving,
    17: row,
}


def answer(graph, call, given):
    """What one call answers, as a list of numbers."""
    if call != BEGIN and len(graph.lines) == 0:
        return [NOT_BEGUN]
    return CALLS[call](graph, given)


def answers(calls):
    """What the calls answer on a new graph: for each, how many numbers, then these."""
    graph = Graph()
    reader = Reader(calls)
    told = []
    while not reader.ended():
        call = reader.read_number()
        numbers = answer(graph, call, reader.read_given(call))
        told.append(len(numbers))
        told.extend(numbers)
    return told
