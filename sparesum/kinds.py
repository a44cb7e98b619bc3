"""Heads, one on each disk, of which several are written side by side: three kinds, and how many of them it takes."""

from sparesum.codes import Code, data_from, fits
from sparesum.errors import InvalidKind, InvalidLength, InvalidNumber, InvalidPending, InvalidPlace, InvalidPrime
from sparesum.errors import InvalidSymbols, InvalidValue, InvalidView, TooFew
from sparesum.numbers import is_prime, symbol_at
from sparesum.shapes import are_ascending_points, is_between, is_tuple_below, is_tuple_of

NAMES = ("star", "bit", "plain")
MOST_SYMBOLS = 16
MOST_PENDING = 16


class Kind:
    """Heads of the kind `name` that tell `symbols` symbols, with up to `pending` in a row written side by side."""

    def __init__(self, name, prime, symbols, pending):
        if not isinstance(name, str) or name not in NAMES:
            raise InvalidKind(name)
        if not is_prime(prime):
            raise InvalidPrime(prime)
        if not is_between(symbols, 1, MOST_SYMBOLS):
            raise InvalidSymbols(symbols)
        if not is_between(pending, 1, MOST_PENDING):
            raise InvalidPending(pending)
        self.name = name
        self.prime = prime
        self.symbols = symbols
        self.pending = pending
        if needed(self) > prime:
            raise InvalidLength(needed(self))

    def __eq__(self, other):
        return (isinstance(other, Kind) and self.name == other.name and self.prime == other.prime
                and self.symbols == other.symbols and self.pending == other.pending)


def is_rest(kind, value):
    if kind.name == "star" and value is None:
        return True
    if kind.name == "bit":
        return is_tuple_of(value, 2) and is_between(value[0], 0, 1) and _are_data(kind, value[1])
    return _are_data(kind, value)


def content(kind, rest, place):
    if not is_rest(kind, rest):
        raise InvalidValue(rest)
    if not is_between(place, 0, kind.prime - 1):
        raise InvalidPlace(place)
    return _content_at(kind, rest, place)


def contents(kind):
    if kind.name == "star":
        return kind.prime + 1
    return 2 * kind.prime if kind.name == "bit" else kind.prime


def needed(kind):
    if kind.name == "star":
        return kind.symbols + kind.pending
    if kind.name == "bit":
        return 2 * kind.symbols + 2 * kind.pending - 1
    return 3 * kind.symbols + 2 * kind.pending - 2


def explains(kind, view, new, old, at):
    if not _is_view(kind, view):
        raise InvalidView(view)
    if not is_rest(kind, new):
        raise InvalidValue(new)
    if not is_rest(kind, old) or not _may_follow(kind, new, old):
        raise InvalidValue(old)
    if not is_between(at, 0, len(view)):
        raise InvalidNumber(at)
    return _is_explained(kind, view, new, old, at)


def tell(kind, view):
    rest, _ = _told(kind, view)
    return _data_of(kind, rest)


def clash(kind):
    _ask_prime_for_clash(kind)
    if kind.name == "star":
        return _star_clash(kind)
    return _bit_clash(kind) if kind.name == "bit" else _plain_clash(kind)


def is_clash(kind, value):
    _ask_prime_for_clash(kind)
    if not is_tuple_of(value, 3):
        return False
    view, one, other = value
    if not _is_view(kind, view) or [place for place, has in view] != list(range(needed(kind) - 1)):
        return False
    if not _is_explanation(kind, view, one) or not _is_explanation(kind, view, other):
        return False
    told = [_data_of(kind, rest) for rest in one[:2]]
    return all([_data_of(kind, rest) not in told for rest in other[:2]])


def settling(kind, view):
    rest, goes_back = _told(kind, view)
    rows = [(place, has, _content_at(kind, rest, place)) for place, has in view]
    if goes_back:
        rows = rows[::-1]
    groups = []
    at = 0
    while at < len(rows):
        if rows[at][1] == rows[at][2]:
            at += 1
        else:
            groups.append([(place, right) for place, has, right in rows[at:at + kind.pending] if has != right])
            at += kind.pending
    return groups


def _are_data(kind, value):
    return is_tuple_below(value, kind.prime) and len(value) == kind.symbols


def _is_view(kind, value):
    return are_ascending_points(value, kind.prime, contents(kind))


def _data_of(kind, rest):
    return rest[1] if kind.name == "bit" else rest


def _content_at(kind, rest, place):
    if rest is None:
        return 0
    symbol = symbol_at(kind.prime, _data_of(kind, rest), place)
    if kind.name == "star":
        return symbol + 1
    return symbol + rest[0] * kind.prime if kind.name == "bit" else symbol


def _may_follow(kind, new, old):
    """Whether two rests are equal, or (new, old) is a change."""
    if new == old or kind.name == "plain":
        return True
    if kind.name == "star":
        return old is None
    return new[0] != old[0]


def _is_explained(kind, view, new, old, at):
    if new == old:
        return _have(kind, view, new)
    return _have(kind, view[:at], new) and _have(kind, view[at + kind.pending:], old)


def _have(kind, heads, rest):
    """Whether these heads of a view have what they have at this rest."""
    return all([_content_at(kind, rest, place) == has for place, has in heads])


def _is_explanation(kind, view, value):
    if not is_tuple_of(value, 3):
        return False
    new, old, at = value
    if not is_rest(kind, new) or not is_rest(kind, old) or not is_between(at, 0, len(view)):
        return False
    return _may_follow(kind, new, old) and _is_explained(kind, view, new, old, at)


def _told(kind, view):
    """The rest that a view tells, and whether the groups that settle it go back."""
    if not _is_view(kind, view):
        raise InvalidView(view)
    if len(view) < needed(kind):
        raise TooFew(len(view))
    if kind.name == "star":
        return _told_by_star(kind, view)
    return _told_by_bit(kind, view) if kind.name == "bit" else _told_by_plain(kind, view)


def _told_by_star(kind, view):
    if 0 in [has for place, has in view[:kind.symbols + kind.pending]]:
        return None, True
    return _data_from(kind, [(place, has - 1) for place, has in view[:kind.symbols]]), False


def _told_by_bit(kind, view):
    bits = [has // kind.prime for place, has in view]
    last = len(view) - kind.symbols
    if _are_alike(bits):
        first = kind.pending
    elif _are_alike(bits[last - kind.pending:]):
        first = last
    else:
        first = 0
    data = _data_from(kind, [(place, has % kind.prime) for place, has in view[first:first + kind.symbols]])
    return (bits[first], data), first == last


def _told_by_plain(kind, view):
    ahead = len(view) - kind.symbols - kind.pending + 1
    if fits(_code(kind), view[:ahead]):
        return _data_from(kind, view[:kind.symbols]), False
    return _data_from(kind, view[len(view) - kind.symbols:]), True


def _are_alike(bits):
    return 0 not in bits or 1 not in bits


def _code(kind):
    return Code(kind.prime, kind.prime, kind.symbols)


def _data_from(kind, points):
    return data_from(_code(kind), points)


def _ask_prime_for_clash(kind):
    if kind.prime < 5:
        raise InvalidKind(kind)


def _star_clash(kind):
    # The first heads are those of two words alike, and a cut may leave anything in the others.
    zero = (0,) * kind.symbols
    other = _vanishing(kind, 0)
    places = list(range(needed(kind) - 1))
    return (_view_of(kind, zero, places), (other, None, kind.symbols - 1), (zero, zero, 0))


def _bit_clash(kind):
    # The two new words are alike ahead of both torn parts, and the two old ones behind them.
    alike = kind.symbols - 1
    middle = alike + kind.pending
    end = needed(kind) - 1
    zero = (0,) * kind.symbols
    one = ((1, zero), (0, zero), alike)
    other = ((1, _vanishing(kind, 0)), (0, _vanishing(kind, end - alike)), middle)
    view = _view_of(kind, other[0], list(range(middle))) + _view_of(kind, one[1], list(range(middle, end)))
    return (view, one, other)


def _plain_clash(kind):
    # The two new words are alike ahead of both torn parts, the two old ones behind them, and between these parts the
    # old one of the one and the new one of the other.
    alike = kind.symbols - 1
    middle = 2 * alike + kind.pending
    end = needed(kind) - 1
    zero = (0,) * kind.symbols
    # The last symbols of the four data are 0, 1, 2 and 3, so that no two of them are equal.
    one_old = _vanishing(kind, end - alike)
    other_new = _sum_of(kind, one_old, _vanishing(kind, alike + kind.pending))
    one_new = _sum_of(kind, other_new, _vanishing(kind, 0))
    view = _view_of(kind, other_new, list(range(middle))) + _view_of(kind, one_old, list(range(middle, end)))
    return (view, (one_new, one_old, alike), (other_new, zero, middle))


def _view_of(kind, rest, places):
    return [(place, _content_at(kind, rest, place)) for place in places]


def _vanishing(kind, first):
    """Data with symbols of 0 at one place fewer than they have symbols, from this first one on; the last one is 1."""
    data = [1]
    for place in range(first, first + kind.symbols - 1):
        data = [(low - place * high) % kind.prime for low, high in zip([0, *data], [*data, 0])]
    return tuple(data)


def _sum_of(kind, one, other):
    return tuple([(low + high) % kind.prime for low, high in zip(one, other)])
