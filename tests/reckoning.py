"""What the tests reckon themselves, by the words of the document, without the package."""

import itertools

PRIMES = [number for number in range(2, 998) if all(number % divisor for divisor in range(2, number))]


def choose(things, chosen):
    """C(things, chosen) by the triangle."""
    row = [1]
    for _ in range(things):
        row = [one + other for one, other in zip([0, *row], [*row, 0])]
    return row[chosen]


def at_place(prime, data, place):
    """The symbol of [23]; Python has 0 ** 0 as 1, too."""
    return sum(data[i] * place ** i for i in range(len(data))) % prime


def data_of(prime, points):
    """The data with the symbols of as many points, by elimination."""
    rows = [[place ** i % prime for i in range(len(points))] + [symbol] for place, symbol in points]
    for column in range(len(rows)):
        pivot = next(at for at in range(column, len(rows)) if rows[at][column])
        rows[column], rows[pivot] = rows[pivot], rows[column]
        factor = pow(rows[column][column], prime - 2, prime)
        rows[column] = [item * factor % prime for item in rows[column]]
        for at in range(len(rows)):
            if at != column:
                times = rows[at][column]
                rows[at] = [(one - times * other) % prime for one, other in zip(rows[at], rows[column])]
    return tuple(row[-1] for row in rows)


def fits_a_word(prime, points, symbols):
    """Whether data of so many symbols have the symbols of all points."""
    if len(points) <= symbols:
        return True
    data = data_of(prime, points[:symbols])
    return all(at_place(prime, data, place) == symbol for place, symbol in points)


def subsets(things, most=None):
    """All lists of different ones of these things, up to so many, in their order."""
    things = list(things)
    for count in range((len(things) if most is None else most) + 1):
        yield from (list(some) for some in itertools.combinations(things, count))


class Own:
    """An array's sizes by [41], [42]: n, f, m, k, q as there, d, lots, j, p, and H heads; j is None if there is none."""

    def __init__(self, n, f, m, k, q):
        self.n, self.f, self.m, self.k, self.q = n, f, m, k, q
        self.d = n - f
        self.lots = choose(m, k)
        self.p = None
        if self.lots == 1:
            self.j = 0
        elif self.lots < q:
            self.j = 1
        else:
            below = [prime for prime in PRIMES if prime < q]
            self.p = below[-1] if below else None
            right = [j for j in range(2, 30) if below and below[-1] ** j >= self.lots and below[-1] >= self.heads_for(j)]
            self.j = right[0] if right else None
        self.H = None if self.j is None else self.heads_for(self.j)

    def heads_for(self, j):
        return j + 1 + self.f * -(-(j + 1) // self.d)

    def heads_on(self, disk):
        return [head for head in range(self.H) if head % self.n == disk]

    def layout(self, disk):
        """What each block of a disk is, in order."""
        return ([("home", record) for record in range(self.m)] + [("head", head) for head in self.heads_on(disk)]
                + [("new", index) for index in range(self.k)])

    def place(self, disk, block):
        """The number of the block of a disk that is this one."""
        return self.layout(disk).index(block)

    def head_place(self, head):
        return head % self.n, self.place(head % self.n, ("head", head))

    def all_lots(self):
        return [list(lot) for lot in itertools.combinations(range(self.m), self.k)]

    def word_of_number(self, number):
        """The contents of all heads for the lot with this number [52]."""
        if self.j < 2:
            return (number + 1,) * self.H
        figures = tuple(number // self.p ** (self.j - 1 - i) % self.p for i in range(self.j))
        return tuple(at_place(self.p, figures, head) + 1 for head in range(self.H))

    def number_of_points(self, points):
        """The number of the lot that contents of heads tell [53]."""
        if self.j == 0:
            return 0
        if self.j == 1:
            return (points[0][1] - 1) % self.lots
        data = data_of(self.p, [(head, (content - 1) % self.p) for head, content in points[:self.j]])
        return sum(figure * self.p ** (self.j - 1 - i) for i, figure in enumerate(data)) % self.lots

    def row_word(self, contents):
        return tuple(at_place(self.q, contents, disk) for disk in range(self.n))
