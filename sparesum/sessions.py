"""Sessions: a store that is told by lines of text what to do."""

from sparesum.disks import Disks
from sparesum.errors import BadLine, InvalidNames, InvalidText, NothingToRedo, NothingToUndo, SumError, TooMany
from sparesum.heads import told
from sparesum.lines import are_names, order_of
from sparesum.meaning import view_of
from sparesum.stores import Store

MOST_LINES = 400


class Session:
    """A store on new disks of an array, whose records have these names."""

    def __init__(self, names, array):
        self._store = _opened_store(names, array)
        self._names = list(names)

    def do(self, line):
        return _do_line(self._names, self._store, line)


class Desk:
    """A session whose lines can be undone and done again."""

    def __init__(self, names, array):
        self._store = _opened_store(names, array)
        self._names = list(names)
        # The lines that stand, each with a store as it was ahead of it.
        self._standing = []
        self._undone = []

    def do(self, line):
        answer = self._go_on(line)
        self._undone = []
        return answer

    def undo(self):
        if len(self._standing) == 0:
            raise NothingToUndo()
        line, before = self._standing.pop()
        self._store = before
        self._undone.append(line)

    def redo(self):
        if len(self._undone) == 0:
            raise NothingToRedo()
        self._go_on(self._undone.pop())

    def lines(self):
        return [line for line, before in self._standing]

    def _go_on(self, line):
        before = self._store.twin()
        answer = _do_line(self._names, self._store, line)
        self._standing.append((line, before))
        return answer


def play(names, array, lines):
    store = _store_for(names, array, lines)
    return [_played(names, store, at, line) for at, line in enumerate(lines)]


def history_of(names, array, lines):
    store = _store_for(names, array, lines)
    events = []
    for at, line in enumerate(lines):
        count = len(store.answered())
        _played(names, store, at, line)
        events.extend(_events_of(store, line, count))
    return events


def _opened_store(names, array):
    if not are_names(array, names):
        raise InvalidNames(names)
    store = Store(Disks(array))
    store.finish()
    return store


def _store_for(names, array, lines):
    store = _opened_store(names, array)
    if len(lines) > MOST_LINES:
        raise TooMany(len(lines))
    return store


def _played(names, store, at, line):
    try:
        return _do_line(names, store, line)
    except SumError:
        raise BadLine(at) from None


def _events_of(store, line, count):
    """The events of a line that was done, ahead of which so many wishes were answered."""
    word = line.split(" ")[0]
    if word == "set":
        return [("wish", store.answered()[-1]), ("done",)]
    if word == "begin":
        return [store.work()]
    if word == "cut":
        return [("cut",)]
    if word == "show":
        return [("told", store.records())]
    return [("done",)] if len(store.answered()) > count else []


def _do_line(names, store, line):
    order = order_of(names, store.disks.array, line)
    if order is None:
        raise InvalidText(line)
    word, behind = order
    act = ACTS[word]
    return act(names, store, behind)


def _set(names, store, wish):
    store.begin(wish)
    store.finish()
    return "done"


def _begin(names, store, wish):
    store.begin(wish)
    return "begun"


def _step(names, store, behind):
    return _joined(list(store.step()))


def _finish(names, store, behind):
    store.finish()
    return "finished"


def _show(names, store, behind):
    records = store.records()
    if len(behind) > 0:
        return _joined(list(records[behind[0]]))
    return _joined([word for name, contents in zip(names, records) for word in (name, *contents)])


def _show_disks(names, store, behind):
    disks = store.disks
    words = ["there"] * disks.array.disks
    for disk in disks.inside():
        words[disk] = "in"
    for disk in disks.lost():
        words[disk] = "lost"
    return _joined(words)


def _cut(names, store, left):
    store.cut(left)
    return "cut"


def _lose(names, store, behind):
    store.lose(behind[0])
    return "lost"


def _replace(names, store, behind):
    store.replace(behind[0])
    return "replaced"


def _take(names, store, behind):
    store.take_in(behind[0])
    return "begun"


def _why(names, store, behind):
    array = store.disks.array
    view = view_of(array, store.disks.settled())
    lot = told(array, view)
    if lot is None:
        return "none"
    heads = [head for head, content in view[:array.symbols + 1]]
    return _joined(["lot"] + [names[record] for record in lot] + ["by"] + heads)


def _lacks(names, store, behind):
    row = store.disks.settled()[behind[0]]
    if row is None:
        return "lost"
    return str(row.index(None)) if None in row else "nothing"


def _joined(words):
    return " ".join([str(word) for word in words])


ACTS = {
    "set": _set, "begin": _begin, "step": _step, "finish": _finish, "show": _show, "disks": _show_disks, "cut": _cut,
    "lose": _lose, "replace": _replace, "take": _take, "why": _why, "lacks": _lacks,
}
