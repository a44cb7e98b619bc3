"""[2], [8], [9], [10] and the interface: names, arguments, and what calls leave as it was."""

import copy
import importlib
import inspect
import itertools
import unittest

from checks import Checks, caught
from sparesum.arrays import (Array, all_blocks, blocks_on, head_block, head_code, heads_on, home_block, new_block,
                             row_code)
from sparesum.changes import change_groups, finish_groups, granted, is_wish
from sparesum.codes import Code, agreement, data_from, fits, is_word, mended, word
from sparesum.counting import (enough, heads_for, is_enough_in_turn, is_exact, least_told, lines_allow, syncs_for,
                               wishes)
from sparesum.disks import Disks
from sparesum.errors import (InvalidBlock, InvalidBlocks, InvalidChanges, InvalidContent, InvalidContents, InvalidData,
                             InvalidEntries, InvalidEvents, InvalidGroups, InvalidHeads, InvalidKind, InvalidLeft, InvalidLot,
                             InvalidNames, InvalidNumber, InvalidPaths, InvalidPoints, InvalidRecords, InvalidRests,
                             InvalidText, InvalidTold, InvalidValue, InvalidView, InvalidWish)
from sparesum.examiner import examine, examine_groups, first_other, left_at, moments, views_left
from sparesum.few import three_can_be_left, three_mending, three_steps, three_told, two_mending, two_steps, two_told
from sparesum.heads import can_be_left, is_view, mending, told
from sparesum.histories import could_be, first_wrong, is_history, is_right
from sparesum.kinds import Kind, clash, content, contents, explains, is_clash, is_rest, needed, settling, tell
from sparesum.lots import head_word, is_lot, lot_at, lot_for, lot_number, lot_of
from sparesum.meaning import inside, is_blocks, read, row_of, row_word, view_of
from sparesum.numbers import evaluate, greatest_prime, inverse, is_prime, least_prime, through
from sparesum.plans import Plan, first_break, is_break, line_count, line_of, turning
from sparesum.sessions import Desk, Session, history_of, play
from sparesum.stores import Store

LISTED = {
    "numbers": {"is_prime": ["value"], "least_prime": ["number"], "greatest_prime": ["number"],
                "inverse": ["prime", "number"], "evaluate": ["prime", "data", "place"], "through": ["prime", "points"]},
    "codes": {"Code": ["prime", "length", "symbols"], "word": ["code", "data"], "is_word": ["code", "value"],
              "data_from": ["code", "points"], "fits": ["code", "points"], "agreement": ["one", "other"],
              "mended": ["code", "points"]},
    "arrays": {"Array": ["disks", "lost", "records", "changes", "contents"], "heads_on": ["array", "disk"],
               "blocks_on": ["array", "disk"], "home_block": ["array", "disk", "record"], "head_block": ["array", "head"],
               "new_block": ["array", "disk", "index"], "all_blocks": ["array"], "row_code": ["array"],
               "head_code": ["array"]},
    "lots": {"is_lot": ["array", "value"], "lot_at": ["array", "number"], "lot_number": ["array", "lot"],
             "lot_for": ["array", "records"], "head_word": ["array", "lot"], "lot_of": ["array", "points"]},
    "heads": {"is_view": ["array", "value"], "told": ["array", "view"], "can_be_left": ["array", "view", "lot"],
              "mending": ["array", "view"]},
    "disks": {"Disks": ["array"]},
    "meaning": {"is_blocks": ["array", "value"], "inside": ["array", "blocks"], "view_of": ["array", "blocks"],
                "row_of": ["array", "blocks", "block"], "read": ["array", "blocks"], "row_word": ["array", "contents"]},
    "changes": {"is_wish": ["array", "value"], "granted": ["array", "told", "wish"],
                "change_groups": ["array", "blocks", "wish"], "finish_groups": ["array", "blocks"]},
    "stores": {"Store": ["disks"]},
    "taking": {"take_all": ["store"]},
    "histories": {"is_history": ["array", "value"], "could_be": ["array", "start", "events"],
                  "is_right": ["array", "start", "events"], "first_wrong": ["array", "start", "events"]},
    "examiner": {"views_left": ["array", "lot"], "moments": ["array", "blocks", "wish"],
                 "left_at": ["array", "blocks", "wish", "moment", "way"], "examine": ["array", "blocks", "wish"],
                 "examine_groups": ["array", "blocks", "wish", "groups"],
                 "first_other": ["array", "blocks", "wish", "groups"]},
    "counting": {"enough": ["disks", "lost", "records", "changes", "contents"],
                 "wishes": ["need", "records", "changes", "contents"],
                 "lines_allow": ["blocks", "need", "records", "changes", "contents"],
                 "least_told": ["disks", "lost", "records", "changes", "contents"],
                 "is_exact": ["disks", "lost", "records", "changes", "contents"],
                 "heads_for": ["need", "lost", "symbols", "pending"], "syncs_for": ["heads", "pending"],
                 "is_enough_in_turn": ["order", "disks", "lost", "symbols", "pending"]},
    "kinds": {"Kind": ["name", "prime", "symbols", "pending"], "is_rest": ["kind", "value"],
              "content": ["kind", "rest", "place"], "contents": ["kind"], "needed": ["kind"],
              "explains": ["kind", "view", "new", "old", "at"], "tell": ["kind", "view"], "clash": ["kind"],
              "is_clash": ["kind", "value"], "settling": ["kind", "view"]},
    "few": {"two_told": ["view"], "two_mending": ["view"], "two_steps": ["view", "value"], "three_steps": ["view", "new"],
            "three_can_be_left": ["view"], "three_told": ["view"], "three_mending": ["view"]},
    "plans": {"Plan": ["blocks", "contents", "kept", "entries", "rests", "paths"], "line_of": ["plan", "number", "block"],
              "is_break": ["plan", "value"], "first_break": ["plan"], "turning": ["plan", "old", "new"],
              "line_count": ["plan"]},
    "sessions": {"Session": ["names", "array"], "play": ["names", "array", "lines"],
                 "history_of": ["names", "array", "lines"], "Desk": ["names", "array"]},
}

METHODS = {
    Code: {"__eq__": None},
    Array: {"__eq__": None},
    Disks: {"lost": [], "inside": [], "settled": [], "now": [], "pending": [], "write": ["disk", "block", "content"],
            "sync": [], "lose": ["disk"], "replace": ["disk"], "cut": ["left"]},
    Store: {"work": [], "answered": [], "step": [], "finish": [], "records": [], "begin": ["wish"], "cut": ["left"],
            "lose": ["disk"], "replace": ["disk"], "take_in": ["disk"]},
    Kind: {"__eq__": None},
    Plan: {"__eq__": None},
    Session: {"do": ["line"]},
    Desk: {"do": ["line"], "undo": [], "redo": [], "lines": []},
}

# These change what they are passed: the tests of their own call them by position and by name.
CALLED_APART = {"take_all"}

# [8] promises these by position alone.
BY_POSITION = {"replace"}


def calls():
    """A call of each function that raises nothing, its arguments in the order of the interface, and its result."""
    code, array = Code(5, 4, 2), Array(4, 1, 6, 3, 13)
    points = [(0, 1), (1, 4), (2, 2), (3, 1)]
    view = [(0, 2), (1, 5), (2, 12), (3, 0)]
    three, two, blocks = Array(3, 1, 2, 1, 5), Array(2, 1, 2, 1, 5), [[1, 2, 2, 0], None, [2, 2, 2, 4]]
    return [
        (is_prime, [91], False), (least_prime, [8], 11), (greatest_prime, [8], 7), (inverse, [7, 3], 5),
        (evaluate, [7, (3, 1, 2), 2], 6), (through, [7, [(2, 6), (0, 3), (1, 6)]], (3, 1, 2)),
        (Code, [5, 4, 2], code), (word, [code, (1, 3)], (1, 4, 2, 0)), (is_word, [code, (1, 4, 2, 1)], False),
        (data_from, [code, points], (1, 3)), (fits, [code, points], False),
        (agreement, [(1, 4, 2, 0), (4, 4, 4, 4)], 1), (mended, [code, points], (1, 4, 2, 0)),
        (Array, [4, 1, 6, 3, 13], array), (heads_on, [array, 1], [1]), (blocks_on, [array, 1], 10),
        (home_block, [array, 1, 5], 5), (head_block, [array, 3], 6), (new_block, [array, 1, 2], 9),
        (all_blocks, [array], 40), (row_code, [array], Code(13, 4, 3)), (head_code, [array], Code(11, 4, 2)),
        (is_lot, [array, [1, 3, 5]], True), (is_lot, [array, [1, 5, 3]], False), (lot_at, [array, 14], [1, 3, 5]),
        (lot_number, [array, [1, 3, 5]], 14), (lot_for, [array, [3]], [0, 1, 3]),
        (head_word, [array, [1, 3, 5]], (2, 5, 8, 11)), (lot_of, [array, [(1, 5), (3, 11)]], [1, 3, 5]),
        (is_view, [array, view], True), (told, [array, view], [1, 3, 5]), (can_be_left, [array, view, [1, 3, 5]], True),
        (mending, [array, view], [(2, 8), (3, 11)]), (is_blocks, [three, blocks], True), (inside, [three, blocks], [0, 2]),
        (view_of, [three, blocks], [(0, 2), (2, 2)]), (row_of, [three, blocks, ("home", 0)], [(0, 1), (2, 2)]),
        (read, [three, blocks], [(1, 3), (0, 2)]), (row_word, [three, (1, 3)], (1, 4, 2)),
        (is_wish, [three, [(1, (4, 0))]], True),
        (granted, [three, [(1, 2), (3, 4)], [(1, (0, 0))]], [(1, 2), (0, 0)]),
        (change_groups, [two, [[3, 1, 0, 0, 4], None], [(1, (2,))]],
         [[(0, 4, 2)], [(0, 2, 2)], [(0, 3, 2)], [(0, 1, 2)], [(0, 3, 0)], [(0, 2, 0)]]),
        (finish_groups, [two, [[3, 1, 2, 1, 2], None]], [[(0, 3, 2)], [(0, 1, 2)], [(0, 3, 0)], [(0, 2, 0)]]),
        *calls_of_histories(), *calls_of_the_examiner(), *calls_of_counting(), *calls_of_kinds(), *calls_of_few(),
        *calls_of_plans(), *calls_of_sessions(),
    ]


def calls_of_kinds():
    star, bit, plain = Kind("star", 5, 2, 1), Kind("bit", 5, 1, 1), Kind("plain", 5, 1, 1)
    return [
        (Kind, ["star", 5, 2, 1], star), (is_rest, [star, None], True), (is_rest, [plain, (5,)], False),
        (content, [bit, (1, (4,)), 0], 9), (contents, [bit], 10), (needed, [plain], 3),
        (explains, [plain, [(0, 2), (1, 4), (2, 4)], (2,), (4,), 1], True), (tell, [star, [(0, 2), (2, 3), (3, 5)]], (1, 3)),
        (tell, [star, [(0, 2), (2, 3), (3, 0)]], None), (clash, [plain], clash(plain)), (is_clash, [plain, clash(plain)], True),
        (is_clash, [star, clash(plain)], False), (settling, [star, [(0, 2), (2, 3), (3, 0)]], [[(2, 0)], [(0, 0)]]),
        (settling, [bit, [(0, 7), (1, 3), (2, 1)]], [[(1, 1)], [(0, 1)]]),
    ]


def calls_of_few():
    return [
        (two_told, [[0, 7, 1]], 1), (two_mending, [[0, 7, 1]], [(0, 1)]), (two_steps, [[0, 0], 1], [(0, 1), (1, 1)]),
        (three_steps, [[2, 2, 2], 1], [(2, 1), (1, 1), (0, 1)]), (three_can_be_left, [[2, 0, 1, 1, 0]], False),
        (three_told, [[9, 2]], 2), (three_mending, [[2, 5, 1, 1]], [(1, 2), (2, 2), (3, 2)]), (three_steps, [[0, 0], 0], []),
    ]


def plan_values():
    paths = [[[], [(1, 0), (0, 1)], [(1, 1), (0, 1)]], [[(0, 0)], [], [(1, 1)]], [[(0, 0)], [(1, 0)], []]]
    return [2, 2, 3, [0, 0, 1, 2], [0, 2, 3], paths]


def worse_plan():
    return Plan(1, 3, 3, [0, 1, 2], [0, 1, 2], [[[], [(0, 1)], [(0, 2)]], [[(0, 0)], [], [(0, 2)]], [[(0, 0)], [(0, 1)], []]])


def calls_of_plans():
    plan = Plan(*plan_values())
    return [
        (Plan, plan_values(), plan), (line_of, [plan, 1, 0], [1, 3]), (is_break, [worse_plan(), (2, 0, 0, 1)], True),
        (is_break, [plan, (2, 0, 0, 1)], False), (first_break, [worse_plan()], (0, 1, 0, 2)), (first_break, [plan], None),
        (turning, [plan, 1, 2], (2, 1)), (line_count, [plan], 4),
    ]


def calls_of_sessions():
    array, names = Array(3, 1, 2, 1, 5), ["a", "b"]
    return [
        (play, [names, array, ["set b 1 3", "show"]], ["done", "a 0 0 b 1 3"]),
        (history_of, [names, array, ["begin b 1 3", "step", "cut", "finish", "show a"]],
         [("wish", [(1, (1, 3))]), ("cut",), ("told", [(0, 0), (0, 0)])]),
    ]


def calls_of_histories():
    array, start = Array(2, 1, 2, 1, 5), [(0,), (0,)]
    events = [("wish", [(0, (1,))]), ("told", [(1,), (0,)]), ("cut",), ("wish", [(1, (2,))]), ("cut",)]
    return [
        (is_history, [array, events], True), (is_history, [array, events[1:] + [("done",)]], False),
        (could_be, [array, start, events], [[(0,), (0,)], [(0,), (2,)], [(1,), (0,)], [(1,), (2,)]]),
        (is_right, [array, start, events], True), (is_right, [array, start, [("told", [(0,), (1,)])]], False),
        (first_wrong, [array, start, events + [("told", [(2,), (0,)])]], 5), (first_wrong, [array, start, events], None),
    ]


def calls_of_the_examiner():
    array, blocks, wish = Array(1, 0, 1, 1, 3), [[1, 0, 0]], [(0, (2,))]
    return [
        (views_left, [Array(2, 1, 1, 1, 2), [0]],
         [[(0, 0)], [(0, 0), (1, 0)], [(0, 1)], [(0, 1), (1, 0)], [(0, 1), (1, 1)], [(1, 0)], [(1, 1)]]),
        (moments, [array, blocks, wish], 9), (left_at, [array, blocks, wish, 3, 2], [[1, 2, 2]]),
        (left_at, [array, blocks, wish, 3, "undone"], [[1, 0, 2]]), (examine, [array, blocks, wish], (17, 28, 0)),
        (left_at, [Array(2, 1, 1, 1, 5), [[1, 0, 0], None], [], 0, "done"], [[1, 0, 0], None]),
        (examine_groups, [array, blocks, wish, [[(0, 0, 2)]]], (7, 7, 1)),
        (first_other, [array, blocks, wish, [[(0, 0, 2)]]], (1, 0, [])), (first_other, [array, blocks, wish, [[]]], None),
    ]


def calls_of_counting():
    return [
        (enough, [12, 2, 24, 6, 13], 368), (wishes, [2, 2, 2, 2], 15), (lines_allow, [3, 1, 2, 1, 3], True),
        (least_told, [12, 2, 24, 6, 13], 366), (least_told, [3, 1, 1, 1, 7], None), (is_exact, [8, 2, 18, 3, 821], True),
        (heads_for, [6, 2, 1, 3], 6), (syncs_for, [5, 2], 8), (is_enough_in_turn, [[0, 1, 0, 1], 2, 1, 1, 2], True),
        (is_enough_in_turn, [[0, 0, 1, 1], 2, 1, 1, 2], False),
    ]


def wrong_calls():
    """Calls that raise an error or tell False, some of them with lists that could be changed."""
    code, array, three = Code(5, 4, 2), Array(4, 1, 6, 3, 13), Array(3, 1, 2, 1, 5)
    wrong, blocks = [[1, 2, 2, 0], None, [2, 2, 2, 5]], [[1, 2, 2, 0], None, [2, 2, 2, 4]]
    return [
        (is_prime, [["x", [7]]]), (least_prime, [[1, [2]]]), (greatest_prime, [{"a": [1]}]), (inverse, [[7], [1]]),
        (inverse, [7, [1]]), (evaluate, [7, [1, 2], 0]), (evaluate, [7, (1,), [0]]), (through, [7, [(1, 1), [2, 2]]]),
        (through, [7, [(3, 1), (1, 1), (3, 1)]]), (Code, [5, [4], [2]]), (word, [code, [1, 3]]),
        (is_word, [code, [1, 4, 2, 0]]), (data_from, [code, [(1, 1), (0, 2)]]), (data_from, [code, [(1, 1)]]),
        (fits, [code, [(1, 1), (0, 2)]]), (agreement, [[1, 2], [2, 1]]), (mended, [code, [(0, 1), (1, 4)]]),
        (mended, [code, [(0, 1), (1, 2), (2, 2), (3, 0)]]), (Array, [4, [1], 6, [3], 13]), (Array, [3, 1, 4, 2, 3]),
        (heads_on, [array, [1]]), (blocks_on, [array, 4]), (home_block, [array, 0, [1]]), (head_block, [array, [2, [1]]]),
        (new_block, [array, 0, [1]]), (is_lot, [array, [3, 1, 2]]), (lot_at, [array, [1]]), (lot_number, [array, [5, 3, 1]]),
        (lot_for, [array, [3, 1]]), (head_word, [array, [1, 2]]), (lot_of, [array, [(3, 1), (0, 1)]]),
        (lot_of, [array, [(3, 1)]]), (is_view, [array, [(3, 1), (0, 1)]]), (told, [array, [(3, 1), (0, 1)]]),
        (told, [array, [(3, 1)]]), (can_be_left, [array, [[3, 1]], [1, 3, 5]]), (can_be_left, [array, [(3, 1)], [1, 5, 3]]),
        (mending, [array, [(0, 1), (1, 1), [2, 0]]]), (is_blocks, [three, wrong]), (inside, [three, wrong]),
        (view_of, [three, wrong]), (row_of, [three, wrong, ("home", 0)]), (row_of, [three, blocks, ["home", [0]]]),
        (read, [three, wrong]), (read, [three, [[1, 2, 2, 0], [0, None, 0, 0], None]]), (row_word, [three, [1, 2]]),
        (is_wish, [three, [(2, (4, 0))]]), (granted, [three, [[1, 2], (3, 4)], []]),
        (granted, [three, [(1, 2), (3, 4)], [[1, (0, 0)]]]), (change_groups, [three, wrong, []]),
        (change_groups, [three, blocks, [[1, (0, 0)]]]), (change_groups, [three, blocks, [(1, (0, 0))]]),
        (finish_groups, [three, wrong]), (finish_groups, [three, [None, None, [2, 2, 2, 4]]]),
        *wrong_calls_of_stage_4(), *wrong_calls_of_stage_5(),
    ]


def wrong_calls_of_stage_4():
    array, blocks, wish, start = Array(1, 0, 1, 1, 3), [[1, 0, 0]], [(0, (2,))], [(1,)]
    many = Array(1, 0, 9, 1, 5)
    cuts = [event for record in range(9) for event in [("wish", [(record, (1,))]), ("cut",)]]
    return [
        (is_history, [array, [["cut"]]]), (could_be, [array, [[1]], []]), (could_be, [array, start, [["cut"], [1]]]),
        (is_right, [array, start, [("told", [[1]])]]), (first_wrong, [array, start, [("wish", [[0, (1,)]])]]),
        (could_be, [many, [(0,)] * 9, cuts]), (views_left, [array, [[0]]]), (views_left, [Array(12, 11, 2, 1, 13), [0]]),
        (moments, [array, [[1, 0, [0]]], wish]), (moments, [array, blocks, [[0, (2,)]]]), (moments, [array, [None], wish]),
        (moments, [array, [[1, 1, 0]], wish]), (left_at, [array, blocks, wish, [3], 2]), (left_at, [array, blocks, wish, 3, [2]]),
        (examine, [array, [[1, 0, [0]]], wish]), (examine, [Array(12, 11, 1, 1, 13), [[0] * 4] * 12, wish]),
        (examine_groups, [array, blocks, wish, [[[0, 0, 2]]]]), (examine_groups, [array, blocks, wish, [[]] * 2000]),
        (first_other, [array, blocks, [[0, (2,)]], []]), (first_other, [array, blocks, wish, [[(0, 0, [2])]]]),
        (enough, [[12], 2, 24, 6, 13]), (enough, [3, 1, 4, 2, 3]), (wishes, [2, [2], 2, 2]), (lines_allow, [[3], 1, 2, 1, 3]),
        (least_told, [12, 2, 24, [6], 13]), (is_exact, [12, 2, 24, 6, [13]]), (heads_for, [6, [2], 1, 3]), (syncs_for, [5, [2]]),
        (is_enough_in_turn, [[0, 1, [0]], 2, 1, 1, 2]), (is_enough_in_turn, [[0, 1], [2], 1, 1, 2]),
    ]


def wrong_calls_of_stage_5():
    star, plain, plan = Kind("star", 5, 2, 1), Kind("plain", 5, 1, 1), Plan(*plan_values())
    three, array, names = Kind("plain", 3, 1, 1), Array(3, 1, 2, 1, 5), ["a", "b"]
    return [
        (Kind, [["star"], 5, 2, 1]), (Kind, ["star", [5], 2, 1]), (Kind, ["star", 5, 2, [1]]), (Kind, ["plain", 5, 2, 1]),
        (is_rest, [star, [1, 3]]), (content, [star, [1, 3], 0]), (content, [star, (1, 3), [0]]), (explains, [plain, [[0, 1]], (1,), (1,), 0]),
        (explains, [plain, [(0, 1)], [1], (1,), 0]), (explains, [plain, [(0, 1)], (1,), [1], 0]), (explains, [plain, [(0, 1)], (1,), (1,), [0]]),
        (tell, [star, [[0, 1]]]), (tell, [star, [(0, 1)]]), (clash, [three]), (is_clash, [three, None]), (is_clash, [plain, list(clash(plain))]),
        (settling, [star, [(1, 1), (0, 1)]]), (settling, [star, []]), (two_told, [[]]), (two_mending, [[[0]]]), (two_steps, [[0], [1]]),
        (two_steps, [[997], 1]), (three_steps, [[0, 0], [1]]), (three_steps, [[0, 2], 1]), (three_can_be_left, [[1]]),
        (three_told, [[2, 0, 1, 1, 0]]), (three_mending, [[3, 3]]), (three_mending, [[0]]), (Plan, [*plan_values()[:3], [0, 0, 1], [0, 2, 3], []]),
        (Plan, [*plan_values()[:4], [0, 2, 1], []]), (Plan, [*plan_values()[:5], [[[], [[1, 0]]]]]), (Plan, [16, 64, 1, [], [], []]),
        (line_of, [plan, [1], 0]), (line_of, [plan, 1, [0]]), (is_break, [worse_plan(), [2, 0, 0, 1]]), (turning, [plan, [0], 1]),
        (turning, [plan, 0, 0]), (turning, [worse_plan(), 0, 1]), (play, [["a"], array, []]), (play, [names, array, ["show"] * 401]),
        (play, [names, array, ["show", ["show"]]]), (history_of, [["a", ["b"]], array, []]), (history_of, [names, array, ["step"]]),
        (Session, [["a", "A"], array]), (Desk, [["a", "a"], array]),
    ]


def new_session():
    return Session(["a", "b"], Array(3, 1, 2, 1, 5))


def desk_with_lines():
    """A desk with two lines that stand, and one that is undone."""
    desk = Desk(["a", "b"], Array(3, 1, 2, 1, 5))
    desk.do("set a 1 2")
    desk.do("lose 0")
    desk.do("begin b 1 1")
    desk.undo()
    return desk


def disks_with_writes():
    disks = Disks(Array(3, 1, 2, 2, 5))
    disks.lose(2)
    disks.write(0, 1, 4)
    disks.write(1, 0, 3)
    return disks


def new_store():
    return Store(Disks(Array(3, 1, 2, 2, 5)))


def open_store():
    store = new_store()
    store.finish()
    return store


def busy_store():
    """A store with an answered wish, and another one under way, whose first write is pending."""
    store = open_store()
    store.begin([(0, (1, 2))])
    store.finish()
    store.begin([(1, (3, 4))])
    store.step()
    return store


def lacking_store():
    """An open store with a lost disk."""
    store = open_store()
    store.lose(2)
    return store


def method_calls():
    """What makes an object, the name of a method, its arguments in order, and its result."""
    return [
        (disks_with_writes, "lost", [], [2]), (disks_with_writes, "inside", [], [0, 1]),
        (disks_with_writes, "settled", [], [[0] * 5, [0] * 5, None]),
        (disks_with_writes, "now", [], [[0, 4, 0, 0, 0], [3, 0, 0, 0, 0], None]),
        (disks_with_writes, "pending", [], [(0, 1, 4), (1, 0, 3)]), (disks_with_writes, "write", [1, 4, 2], None),
        (disks_with_writes, "sync", [], 2), (lambda: Disks(Array(3, 1, 2, 2, 5)), "lose", [0], None),
        (disks_with_writes, "replace", [2], None), (disks_with_writes, "cut", [[(0, 1, 2), (1, 0, 0)]], None),
        (new_store, "work", [], ("opening",)), (busy_store, "work", [], ("wish", [(1, (3, 4))])),
        (busy_store, "answered", [], [[(0, (1, 2))]]), (busy_store, "step", [], ("write", 1, 3, 3)),
        (busy_store, "finish", [], 22), (busy_store, "records", [], [(1, 2), (0, 0)]),
        (open_store, "begin", [[(1, (3, 4))]], None), (busy_store, "cut", [[(0, 3, 2)]], None),
        (busy_store, "lose", [0], None), (lacking_store, "replace", [2], None), (open_store, "take_in", [1], None),
        (new_session, "do", ["set b 1 3"], "done"), (desk_with_lines, "do", ["show"], "a 1 2 b 0 0"),
        (desk_with_lines, "undo", [], None), (desk_with_lines, "redo", [], None), (desk_with_lines, "lines", [], ["set a 1 2", "lose 0"]),
    ]


def wrong_method_calls():
    """The same, of calls that raise an error."""
    return [
        (disks_with_writes, "write", [[1], 4, 2]), (disks_with_writes, "write", [2, [4], 2]),
        (disks_with_writes, "write", [1, [4], 2]), (disks_with_writes, "write", [1, 4, [2]]),
        (disks_with_writes, "lose", [[0]]), (disks_with_writes, "lose", [1]), (disks_with_writes, "replace", [[2]]),
        (disks_with_writes, "replace", [1]), (disks_with_writes, "cut", [[(0, 1, 2), [1, 0, 0]]]),
        (disks_with_writes, "cut", [[(0, 1, 2), (1, 1, 0)]]), (disks_with_writes, "cut", [{"a": [1]}]),
        (new_store, "records", []), (open_store, "step", []), (open_store, "finish", []),
        (open_store, "begin", [[[1, (3, 4)]]]), (busy_store, "begin", [[(1, (3, 4))]]), (new_store, "begin", [[]]),
        (busy_store, "cut", [[[0, 3, 2]]]), (busy_store, "cut", [[(0, 3, 2), (1, 3, 2)]]), (busy_store, "lose", [[0]]),
        (lacking_store, "lose", [0]), (lacking_store, "lose", [2]), (lacking_store, "replace", [[2]]),
        (lacking_store, "replace", [1]), (open_store, "take_in", [[1]]), (lacking_store, "take_in", [2]),
        (busy_store, "take_in", [1]), (new_store, "take_in", [1]), (new_session, "do", [["show"]]), (new_session, "do", ["step"]),
        (new_session, "do", ["cut 0 0 0 0 0 1"]), (desk_with_lines, "do", [{"a": ["show"]}]), (desk_with_lines, "do", ["lose 1"]),
        (lambda: Desk(["a", "b"], Array(3, 1, 2, 1, 5)), "undo", []), (lambda: Desk(["a", "b"], Array(3, 1, 2, 1, 5)), "redo", []),
    ]


def state_of(thing):
    """What an object tells by its methods that change nothing."""
    if isinstance(thing, Store):
        return [thing.work(), thing.answered(), state_of(thing.disks)]
    if isinstance(thing, (Session, Desk)):
        other, told_now = copy.deepcopy(thing), other_lines(thing)
        return told_now + [caught(other.do, line) or other.do(line) for line in ["disks", "why", "lacks 0", "show"]]
    return [thing.lost(), thing.inside(), thing.settled(), thing.now(), thing.pending()]


def other_lines(thing):
    """The lines of a desk that stand, and how many could be done again."""
    if isinstance(thing, Session):
        return []
    other, count = copy.deepcopy(thing), 0
    while caught(other.redo) is None:
        count += 1
    return [thing.lines(), count]


def as_tuples(value):
    if isinstance(value, (list, tuple)):
        return tuple(as_tuples(item) for item in value)
    return value


def named(function, values):
    return dict(zip(inspect.signature(function).parameters, values))


def all_objects(value):
    """The value and all that it has within."""
    found = [value]
    for item in value.values() if isinstance(value, dict) else value if isinstance(value, (list, tuple)) else []:
        found.extend(all_objects(item))
    return found


class Interface(Checks, unittest.TestCase):
    def test_all_is_defined_where_it_is_listed(self):
        for file, names in LISTED.items():
            module = importlib.import_module("sparesum." + file)
            for name, parameters in names.items():
                thing = getattr(module, name)
                self.assertEqual(thing.__module__, "sparesum." + file)
                self.assertEqual(list(inspect.signature(thing).parameters), parameters)

    def test_all_methods_stand_in_the_class_itself(self):
        for owner, methods in METHODS.items():
            self.assertEqual(owner.__bases__, (object,))
            for name, parameters in methods.items():
                self.assertIn(name, vars(owner))
                if parameters is not None:
                    self.assertEqual(list(inspect.signature(vars(owner)[name]).parameters), ["self", *parameters])

    def test_each_listed_name_is_called_here(self):
        called = {function.__name__ for function, _, _ in calls()}
        called |= {type(make()).__name__ for make, _, _, _ in method_calls()} | CALLED_APART
        self.assertEqual(called, {name for names in LISTED.values() for name in names})
        called = {(type(make()), name) for make, name, _, _ in method_calls()}
        listed = {(owner, name) for owner, methods in METHODS.items() for name in methods if name != "__eq__"}
        self.assertEqual(called, listed)

    def test_by_position_and_by_name(self):
        for function, values, wanted in calls():
            names = list(inspect.signature(function).parameters)
            self.check_same(wanted, function(*values))
            self.check_same(wanted, function(**dict(zip(names, values))))
            self.check_same(wanted, function(**dict(reversed(list(zip(names, values))))))
            self.check_same(wanted, function(*values[:1], **dict(list(zip(names, values))[1:])))

    def test_methods_by_position_and_by_name(self):
        for make, name, values, wanted in method_calls():
            one, other = make(), make()
            self.check_same(wanted, getattr(one, name)(*values))
            if name not in BY_POSITION:
                self.check_same(wanted, getattr(other, name)(**named(getattr(other, name), values)))
                self.assertEqual(state_of(one), state_of(other))

    def test_errors_by_position_and_by_name(self):
        for function, values in wrong_calls():
            one, other = caught(function, *values), caught(function, **named(function, values))
            self.assertIs(type(one), type(other))
            if one is not None:
                self.assertEqual(vars(one), vars(other))

    def test_errors_of_methods(self):
        for make, name, values in wrong_method_calls():
            one, other = make(), make()
            before = state_of(one)
            first = caught(getattr(one, name), *values)
            self.assertIsNotNone(first)
            self.assertEqual(state_of(one), before)
            if name not in BY_POSITION:
                second = caught(getattr(other, name), **named(getattr(other, name), values))
                self.assertEqual([type(first), vars(first)], [type(second), vars(second)])

    def test_tuples_in_the_place_of_lists(self):
        for function, values, wanted in calls():
            self.check_same(wanted, function(*[as_tuples(value) for value in values]))
            self.check_same(wanted, function(*[tuple(value) if isinstance(value, list) else value for value in values]))
        for make, name, values, wanted in method_calls():
            one, other = make(), make()
            getattr(one, name)(*values)
            self.check_same(wanted, getattr(other, name)(*[as_tuples(value) for value in values]))
            self.assertEqual(state_of(one), state_of(other))

    def test_a_list_in_the_place_of_a_tuple(self):
        code, array, disks = Code(5, 4, 2), Array(4, 1, 6, 3, 13), disks_with_writes()
        three = Array(3, 1, 2, 1, 5)
        for function, error_class, before, wrong, behind in [
                (evaluate, InvalidData, [7], [3, 1, 2], [2]), (word, InvalidData, [code], [1, 3], []),
                (agreement, InvalidData, [], [1], [(1,)]), (agreement, InvalidData, [(1,)], [1], []),
                (through, InvalidPoints, [7], [[2, 6]], []), (through, InvalidPoints, [7], ((0, 1), [2, 6]), []),
                (data_from, InvalidPoints, [code], [(0, 1), [1, 4]], []),
                (fits, InvalidPoints, [code], [[0, 1], (1, 4)], []),
                (mended, InvalidPoints, [code], [(0, 1), (1, 4), [2, 2], (3, 0)], []),
                (lot_of, InvalidHeads, [array], [(0, 1), [1, 4]], []), (told, InvalidView, [array], ([0, 1], (1, 4), (2, 0)), []),
                (mending, InvalidView, [array], [(0, 1), (1, 4), [2, 2]], []),
                (can_be_left, InvalidView, [array], [[0, 1]], [[1, 3, 5]]), (disks.cut, InvalidLeft, [], [[0, 1, 2]], []),
                (row_word, InvalidTold, [three], [1, 3], []), (granted, InvalidTold, [three], [[1, 3], (0, 0)], [[]]),
                (granted, InvalidWish, [three, [(1, 3), (0, 0)]], [[0, (0, 0)]], []),
                (granted, InvalidWish, [three, [(1, 3), (0, 0)]], [(0, [0, 0])], []),
                (change_groups, InvalidWish, [three, [[0] * 4, [0] * 4, [0] * 4]], [(0, [0, 0])], []),
                (row_of, InvalidBlock, [three, [None] * 3], ["home", 0], []),
                (open_store().begin, InvalidWish, [], [(0, [0, 0])], []), (new_store().cut, InvalidLeft, [], [[0, 0, 0]], []),
                (could_be, InvalidTold, [three], [[1, 3], (0, 0)], [[]]),
                (is_right, InvalidEvents, [three, [(1, 3), (0, 0)]], [["cut"]], []),
                (first_wrong, InvalidEvents, [three, [(1, 3), (0, 0)]], [("told", [[1, 3], (0, 0)])], []),
                (could_be, InvalidEvents, [three, [(1, 3), (0, 0)]], [("wish", [[0, (0, 0)]])], []),
                (moments, InvalidWish, [three, [[0] * 4] * 3], [[0, (0, 0)]], []),
                (examine, InvalidWish, [three, [[0] * 4] * 3], [(0, [0, 0])], []),
                (examine_groups, InvalidGroups, [three, [[0] * 4] * 3, []], [[[0, 0, 0]]], []),
                (first_other, InvalidGroups, [three, [[0] * 4] * 3, []], [[(0, 0, 0)], [[0, 0, 0]]], []),
                (content, InvalidValue, [Kind("plain", 5, 1, 1)], [1], [0]), (tell, InvalidView, [Kind("plain", 5, 1, 1)], [[0, 1]], []),
                (explains, InvalidValue, [Kind("plain", 5, 1, 1), []], [1], [(1,), 0]),
                (explains, InvalidValue, [Kind("bit", 5, 1, 1), [], (1, (1,))], (0, [1]), [0]),
                (Plan, InvalidPaths, plan_values()[:5], [[[], [[1, 0]], []], [[], [], []], [[], [], []]], [])]:
            self.check_given(error_class, wrong, function, *before, wrong, *behind)
        self.assertIs(is_word(code, [1, 4, 2, 0]), False)
        self.assertIs(is_view(array, [[0, 1]]), False)
        self.assertIs(is_wish(three, [[0, (0, 0)]]), False)
        self.assertIs(is_history(three, [["cut"]]), False)
        self.assertIs(is_rest(Kind("plain", 5, 1, 1), [1]), False)
        self.assertIs(is_clash(Kind("plain", 5, 1, 1), list(clash(Kind("plain", 5, 1, 1)))), False)
        self.assertIs(is_break(worse_plan(), [2, 0, 0, 1]), False)

    def test_arguments_stay_as_they_were(self):
        for function, values in [(function, values) for function, values, _ in calls()] + wrong_calls():
            self.check_stay(function, values)
        for make, name, values in [row[:3] for row in method_calls()] + wrong_method_calls():
            self.check_stay(getattr(make(), name), values)

    def check_stay(self, function, values):
        kept, objects = copy.deepcopy(values), all_objects(values)
        caught(function, *values)
        self.assertEqual(values, kept)
        self.assertEqual(list(map(id, all_objects(values))), list(map(id, objects)))

    def test_equal_results_on_each_call(self):
        rows = calls()
        for _ in range(3):
            for function, values, wanted in rows:
                self.check_same(wanted, function(*values))
        for function, values in wrong_calls():
            one, other = caught(function, *values), caught(function, *values)
            self.assertIs(type(one), type(other))
            if one is not None:
                self.assertEqual(vars(one), vars(other))

    def test_returned_lists_are_new_on_each_call(self):
        for function, values, _ in calls():
            self.check_new_lists(function, *values)

    def test_the_very_object_is_kept_in_errors(self):
        array = Array(4, 1, 6, 3, 13)
        for error_class, wrong, function, before, behind in [
                (InvalidRecords, [6], Array, [4, 1], [3, 13]), (InvalidChanges, [3], Array, [4, 1, 6], [13]),
                (InvalidContents, [13], Array, [4, 1, 6, 3], []), (InvalidChanges, [0], new_block, [array, 0], []),
                (InvalidNumber, [0], lot_at, [array], []), (InvalidLot, [1, 2], lot_number, [array], []),
                (InvalidRecords, [2, 1], lot_for, [array], []), (InvalidLot, [3, 2, 1], head_word, [array], []),
                (InvalidHeads, [(1, 0)], lot_of, [array], []), (InvalidView, [(4, 0)], told, [array], []),
                (InvalidView, [(4, 0)], mending, [array], []), (InvalidView, [(4, 0)], can_be_left, [array], [[0, 1, 2]]),
                (InvalidLot, [0, 1], can_be_left, [array, []], []), (InvalidLeft, [(0, 0)], Disks(array).cut, [], []),
                (InvalidBlocks, [None], inside, [array], []), (InvalidBlocks, [None], view_of, [array], []),
                (InvalidBlocks, [None], row_of, [array], [("home", 0)]), (InvalidBlocks, [None], read, [array], []),
                (InvalidBlock, ["home"], row_of, [array, [None] * 4], []), (InvalidTold, [0, 0, 0], row_word, [array], []),
                (InvalidTold, [()], granted, [array], [[]]), (InvalidWish, [()], granted, [array, [(0, 0, 0)] * 6], []),
                (InvalidBlocks, [None], change_groups, [array], [[]]), (InvalidWish, [()], change_groups, [array, [None] * 4], []),
                (InvalidBlocks, [None], finish_groups, [array], []), (InvalidWish, [()], open_store().begin, [], []),
                (InvalidLeft, [()], open_store().cut, [], []), (InvalidTold, [()], could_be, [array], [[]]),
                (InvalidEvents, [()], is_right, [array, [(0, 0, 0)] * 6], []), (InvalidLot, [0], views_left, [array], []),
                (InvalidBlocks, [None], moments, [array], [[]]), (InvalidWish, [()], examine, [array, [None] * 4], []),
                (InvalidNumber, [0], left_at, [Array(1, 0, 1, 1, 3), [[0, 0, 0]], []], ["done"]),
                (InvalidContent, ["done"], left_at, [Array(1, 0, 1, 1, 3), [[0, 0, 0]], [], 0], []),
                (InvalidGroups, [(0,)], first_other, [Array(1, 0, 1, 1, 3), [[0, 0, 0]], []], []),
                (InvalidHeads, [0, 2], is_enough_in_turn, [], [2, 1, 1, 1]), (InvalidHeads, [5], syncs_for, [], [2]),
                (InvalidKind, ["star"], Kind, [], [5, 2, 1]), (InvalidValue, [1], content, [Kind("plain", 5, 1, 1)], [0]),
                (InvalidView, [[0, 1]], tell, [Kind("plain", 5, 1, 1)], []), (InvalidView, [997], two_told, [], []),
                (InvalidView, [0, 2], three_steps, [], [1]), (InvalidValue, [1], two_steps, [[0]], []),
                (InvalidEntries, [0], Plan, [2, 2, 3], [[0, 2, 3], []]), (InvalidRests, [0], Plan, plan_values()[:4], [[]]),
                (InvalidPaths, [[]], Plan, plan_values()[:5], []), (InvalidNames, ["a", "A"], Session, [], [Array(3, 1, 2, 1, 5)]),
                (InvalidNames, ["a", "a"], play, [], [Array(3, 1, 2, 1, 5), []]), (InvalidText, ["show"], new_session().do, [], [])]:
            error = caught(function, *before, wrong, *behind)
            self.assertIs(type(error), error_class)
            wrong.append([9])
            self.assertIs(error.given, wrong)
            self.assertEqual(error.given[-1], [9])

    def test_codes_arrays_kinds_and_plans_are_not_changed(self):
        for function, values in [(function, values) for function, values, _ in calls()] + wrong_calls():
            for thing in values:
                if isinstance(thing, (Code, Array, Kind, Plan)):
                    kept = copy.deepcopy(vars(thing))
                    caught(function, *values)
                    self.check_same(kept, vars(thing))
        for make, name, values in [row[:3] for row in method_calls()] + wrong_method_calls():
            thing = make()
            if not isinstance(thing, (Session, Desk)):
                array = thing.disks.array if isinstance(thing, Store) else thing.array
                kept = dict(vars(array))
                caught(getattr(thing, name), *values)
                self.assertEqual(vars(array), kept)

    def test_objects_of_different_classes_are_not_equal(self):
        things = [Code(5, 4, 2), Array(4, 1, 6, 3, 13), Kind("plain", 5, 1, 1), Plan(*plan_values()), new_session(), desk_with_lines(), new_store(),
                  disks_with_writes(), None, True, 5, "plain", [], (5, 4, 2), {}, ("plain", 5, 1, 1)]
        for one, other in itertools.permutations(things, 2):
            self.assertFalse(one == other)
            self.assertTrue(one != other)

    def test_listed_attributes_are_set_at_once(self):
        for thing, names in [(Code(5, 4, 2), "prime length symbols"), (Array(4, 1, 6, 3, 13), "disks lost records changes contents need lots symbols prime heads"),
                             (Kind("plain", 5, 1, 1), "name prime symbols pending"), (Plan(*plan_values()), "blocks contents kept entries rests paths"),
                             (Disks(Array(2, 1, 1, 1, 5)), "array"), (new_store(), "disks")]:
            for name in names.split():
                self.assertIn(name, vars(thing))


if __name__ == "__main__":
    unittest.main()
