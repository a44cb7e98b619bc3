"""Histories: which records are possible behind wishes, answers, cuts and what was told, and whether any are."""

from sparesum.changes import is_wish, with_wish
from sparesum.errors import InvalidEvents, InvalidTold, TooMany
from sparesum.meaning import are_records
from sparesum.shapes import is_list

MOST_EVENTS = 1000
MOST_POSSIBLE = 300


def is_history(array, value):
    if not is_list(value) or len(value) > MOST_EVENTS:
        return False
    is_under_way = False
    for event in value:
        if not _may_follow(array, event, is_under_way):
            return False
        if event[0] != "told":
            is_under_way = event[0] == "wish"
    return True


def could_be(array, start, events):
    possible, _ = _gone_through(array, start, events)
    return [list(records) for records in sorted(possible)]


def is_right(array, start, events):
    return first_wrong(array, start, events) is None


def first_wrong(array, start, events):
    _, wrong = _gone_through(array, start, events)
    return wrong


def _may_follow(array, value, is_under_way):
    """Whether the value is an event that may stand here, where a wish is or is not under way."""
    if not isinstance(value, tuple) or len(value) == 0 or not isinstance(value[0], str):
        return False
    if len(value) == 1:
        return value[0] == "cut" or (value[0] == "done" and is_under_way)
    if len(value) > 2:
        return False
    if value[0] == "wish":
        return not is_under_way and is_wish(array, value[1])
    return value[0] == "told" and are_records(array, value[1])


def _gone_through(array, start, events):
    """The records that are possible behind all events, and the index of the first one behind which none are."""
    if not are_records(array, start):
        raise InvalidTold(start)
    if not is_history(array, events):
        raise InvalidEvents(events)
    possible = [tuple(start)]
    under_way = None
    for at, event in enumerate(events):
        possible = _behind(possible, under_way, event)
        if len(possible) > MOST_POSSIBLE:
            raise TooMany(len(possible))
        if len(possible) == 0:
            return [], at
        if event[0] == "wish":
            under_way = event[1]
        elif event[0] != "told":
            under_way = None
    return possible, None


def _behind(possible, under_way, event):
    """The records, each once, that are possible behind an event, where this wish, or None, is under way ahead of it."""
    if event[0] == "told":
        told = tuple(event[1])
        return [records for records in possible if told in (records, _granted(records, under_way))]
    if under_way is None:
        # A wish begins, or a cut ends none.
        return possible
    new = [_granted(records, under_way) for records in possible]
    found = new if event[0] == "done" else possible + new
    return list({records: True for records in found})


def _granted(records, under_way):
    return records if under_way is None else tuple(with_wish(records, under_way))
