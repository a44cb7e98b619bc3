"""What the tests reckon themselves, by the words of the document, without the package."""

import itertools

PRIMES = [number for number in range(2, 998) if all(number % divisor for divisor in range(2, number))]


def choose(things, chosen):
    """C(things, chosen) by the triangle."""
    row = [1]
    for _ in range(things):
        row = [one + other for one, other in zip([0, *row], [*row, 0])]
    return row[chosen]


def at_place(prime, data, place):
    """The symbol of [23]; Python has 0 ** 0 as 1, too."""
    return sum(data[i] * place ** i for i in range(len(data))) % prime


def data_of(prime, points):
    """The data with the symbols of as many points, by elimination."""
    rows = [[place ** i % prime for i in range(len(points))] + [symbol] for place, symbol in points]
    for column in range(len(rows)):
        pivot = next(at for at in range(column, len(rows)) if rows[at][column])
        rows[column], rows[pivot] = rows[pivot], rows[column]
        factor = pow(rows[column][column], prime - 2, prime)
        rows[column] = [item * factor % prime for item in rows[column]]
        for at in range(len(rows)):
            if at != column:
                times = rows[at][column]
                rows[at] = [(one - times * other) % prime for one, other in zip(rows[at], rows[column])]
    return tuple(row[-1] for row in rows)


def fits_a_word(prime, points, symbols):
    """Whether data of so many symbols have the symbols of all points."""
    if len(points) <= symbols:
        return True
    data = data_of(prime, points[:symbols])
    return all(at_place(prime, data, place) == symbol for place, symbol in points)


def subsets(things, most=None):
    """All lists of different ones of these things, up to so many, in their order."""
    things = list(things)
    for count in range((len(things) if most is None else most) + 1):
        yield from (list(some) for some in itertools.combinations(things, count))


class Own:
    """An array's sizes by [41], [42]: n, f, m, k, q as there, d, lots, j, p, and H heads; j is None if there is none."""

    def __init__(self, n, f, m, k, q):
        self.n, self.f, self.m, self.k, self.q = n, f, m, k, q
        self.d = n - f
        self.lots = choose(m, k)
        self.p = None
        if self.lots == 1:
            self.j = 0
        elif self.lots < q:
            self.j = 1
        else:
            below = [prime for prime in PRIMES if prime < q]
            self.p = below[-1] if below else None
            right = [j for j in range(2, 30) if below and below[-1] ** j >= self.lots and below[-1] >= self.heads_for(j)]
            self.j = right[0] if right else None
        self.H = None if self.j is None else self.heads_for(self.j)
        self.listed = None

    def heads_for(self, j):
        return j + 1 + self.f * -(-(j + 1) // self.d)

    def heads_on(self, disk):
        return [head for head in range(self.H) if head % self.n == disk]

    def layout(self, disk):
        """What each block of a disk is, in order."""
        return ([("home", record) for record in range(self.m)] + [("head", head) for head in self.heads_on(disk)]
                + [("new", index) for index in range(self.k)])

    def place(self, disk, block):
        """The number of the block of a disk that is this one."""
        return self.layout(disk).index(block)

    def all_lots(self):
        if self.listed is None:
            self.listed = [list(lot) for lot in itertools.combinations(range(self.m), self.k)]
        return self.listed

    def word_of_number(self, number):
        """The contents of all heads for the lot with this number [52]."""
        if self.j < 2:
            return (number + 1,) * self.H
        figures = tuple(number // self.p ** (self.j - 1 - i) % self.p for i in range(self.j))
        return tuple(at_place(self.p, figures, head) + 1 for head in range(self.H))

    def number_of_points(self, points):
        """The number of the lot that contents of heads tell [53]."""
        if self.j == 0:
            return 0
        if self.j == 1:
            return (points[0][1] - 1) % self.lots
        data = data_of(self.p, [(head, (content - 1) % self.p) for head, content in points[:self.j]])
        return sum(figure * self.p ** (self.j - 1 - i) for i, figure in enumerate(data)) % self.lots

    def told_number(self, view):
        """The number of the lot that a view tells by [62], or None."""
        if 0 in [content for _, content in view[:self.j + 1]]:
            return None
        return self.number_of_points(view[:self.j])

    def can_be_left(self, view, number):
        """[63] by its words: whether there is such a head t."""
        word = self.word_of_number(number)
        return any(all(content == word[head] for head, content in view if head < t)
                   and all(content == 0 for head, content in view if head > t) for t in range(self.H))

    def mending(self, view):
        """The writes of [64]."""
        number = self.told_number(view)
        if number is None:
            return [(head, 0) for head, content in view[::-1] if content != 0]
        word = self.word_of_number(number)
        return [(head, word[head]) for head, content in view if content != word[head]]


class OwnBlocks(Own):
    """What the blocks of all disks mean, and the writes of a store, by [81] to [93], [102] and [111]."""

    def __init__(self, n, f, m, k, q):
        Own.__init__(self, n, f, m, k, q)
        self.places = [{block: at for at, block in enumerate(self.layout(disk))} for disk in range(n)]

    def sizes(self):
        return [len(places) for places in self.places]

    def row_word(self, contents):
        return tuple(at_place(self.q, contents, disk) for disk in range(self.n))

    def inside(self, blocks):
        return [disk for disk in range(self.n) if blocks[disk] is not None and all(item is not None for item in blocks[disk])]

    def view(self, blocks):
        return [(head, blocks[head % self.n][self.places[head % self.n][("head", head)]])
                for head in range(self.H) if head % self.n in self.inside(blocks)]

    def row(self, blocks, block):
        return [(disk, blocks[disk][self.places[disk][block]]) for disk in self.inside(blocks)]

    def told_lot(self, blocks):
        number = self.told_number(self.view(blocks))
        return None if number is None else self.all_lots()[number]

    def read(self, blocks):
        lot = self.told_lot(blocks) or []
        rows = [("new", lot.index(record)) if record in lot else ("home", record) for record in range(self.m)]
        return [data_of(self.q, self.row(blocks, block)[:self.d]) for block in rows]

    def granted(self, records, wish):
        return [dict(wish).get(record, contents) for record, contents in enumerate(records)]

    def row_writes(self, blocks, kind, numbers, records):
        """A group with these blocks of the disks that are in, for the contents of as many records."""
        return [(disk, self.places[disk][(kind, number)], self.row_word(contents)[disk])
                for number, contents in zip(numbers, records) for disk in self.inside(blocks)]

    def head_groups(self, blocks, word):
        return [[(head % self.n, self.places[head % self.n][("head", head)], word[head])]
                for head, _ in self.view(blocks)]

    def last_groups(self, blocks, lot, records):
        return [self.row_writes(blocks, "home", lot, records), *self.head_groups(blocks, [0] * self.H)[::-1]]

    def change(self, blocks, wish):
        """The groups of [92] for a wish that is not empty."""
        told_now, having = self.read(blocks), [record for record, _ in wish]
        lot = min(lot for lot in self.all_lots() if set(having) <= set(lot))
        records = [dict(wish).get(record, told_now[record]) for record in lot]
        return [self.row_writes(blocks, "new", range(self.k), records),
                *self.head_groups(blocks, self.word_of_number(self.all_lots().index(lot))),
                *self.last_groups(blocks, lot, records)]

    def finish(self, blocks):
        """The groups of [93]."""
        lot, records = self.told_lot(blocks), self.read(blocks)
        groups = [[(head % self.n, self.places[head % self.n][("head", head)], content)]
                  for head, content in self.mending(self.view(blocks))]
        return groups if lot is None else groups + self.last_groups(blocks, lot, [records[record] for record in lot])

    def taking(self, blocks, disk):
        """The groups of a taking in [111]."""
        if disk in self.inside(blocks):
            return []
        places = self.places[disk]
        homes = [(disk, places[("home", record)], self.row_word(contents)[disk])
                 for record, contents in enumerate(self.read(blocks))]
        heads = [(disk, places[("head", head)], 0) for head in self.heads_on(disk)]
        return [homes + heads, [(disk, places[("new", index)], 0) for index in range(self.k)]]

    def good(self, records, fill=0, lost=()):
        """Good blocks [94] that tell these records, with new blocks of any contents that fill makes unlike."""
        blocks = []
        for disk in range(self.n):
            row = [self.row_word(contents)[disk] for contents in records] + [0] * len(self.heads_on(disk))
            row += [(fill + fill * disk + 3 * fill * index) % self.q for index in range(self.k)]
            blocks.append(None if disk in lost else row)
        return blocks

    def is_good(self, blocks):
        return (len(self.inside(blocks)) >= self.d and all(content == 0 for _, content in self.view(blocks))
                and all(fits_a_word(self.q, self.row(blocks, ("home", record)), self.d) for record in range(self.m)))

    def some_records(self, seed):
        return [tuple((seed + 3 * record + 2 * spot + record * spot * seed) % self.q for spot in range(self.d))
                for record in range(self.m)]


def written(blocks, writes):
    """The blocks behind these writes, in order."""
    rows = [None if row is None else list(row) for row in blocks]
    for disk, block, content in writes:
        if rows[disk] is not None:
            rows[disk][block] = content
    return rows


class OwnDisks:
    """Disks by the words of [71] to [74]: a dict from places to contents, and the places of disks that are there."""

    def __init__(self, own):
        self.own = own
        self.sizes = [len(own.layout(disk)) for disk in range(own.n)]
        self.there = {disk: {block: 0 for block in range(self.sizes[disk])} for disk in range(own.n)}
        self.writes = []

    def rows(self, writes):
        rows = [None] * self.own.n
        for disk, blocks in self.there.items():
            having = {**blocks, **{block: content for other, block, content in writes if other == disk}}
            rows[disk] = [having.get(block) for block in range(self.sizes[disk])]
        return rows

    def inside(self):
        return [disk for disk in range(self.own.n) if disk in self.there and len(self.there[disk]) == self.sizes[disk]]

    def told(self):
        """What the methods of Disks tell: lost, inside, settled, now, pending."""
        lost = [disk for disk in range(self.own.n) if disk not in self.there]
        return [lost, self.inside(), self.rows([]), self.rows(self.writes), self.writes]

    def settle(self, writes):
        for disk, block, content in writes:
            if content is not None:
                self.there[disk][block] = content
        self.writes = []

    def lose(self, disk):
        del self.there[disk]
        self.writes = [write for write in self.writes if write[0] != disk]

    def replace(self, disk):
        self.there[disk] = {}

    def may_lose(self, disk):
        return disk in self.there and len([other for other in self.inside() if other != disk]) >= self.own.d

    def some_left(self, chance):
        """What a cut may leave: some of the blocks with pending writes, as settled or with any content."""
        left = []
        for disk, block in sorted({write[:2] for write in self.writes}):
            way = chance.choice(["left out", "settled", "any"])
            if way != "left out":
                settled = self.there[disk].get(block)
                left.append((disk, block, settled if way == "settled" else chance.randrange(self.own.q)))
        chance.shuffle(left)
        return left
