"""[181] to [184]: sessions by lines of text, held against the test's own reading of them and its own store."""

import copy
import random
import re
import unittest

from checks import Checks, Plain, Touchy, caught, no_lists
from reckoning import OwnBlocks, OwnDisks
from storing import Model
from sparesum.arrays import Array
from sparesum.errors import (BadLine, Busy, InvalidLeft, InvalidNames, InvalidText, IsLost, NothingToRedo, NothingToUndo, NotLeft,
                             NotLost, NotOpen, NoWork, TooMany, TooManyLost)
from sparesum.histories import is_history, is_right
from sparesum.sessions import Desk, Session, history_of, play

ARRAYS = [(1, 0, 2, 1, 3), (2, 1, 2, 1, 5), (3, 1, 2, 1, 5), (3, 1, 2, 2, 5), (3, 2, 4, 2, 7), (4, 1, 3, 2, 7), (4, 2, 3, 2, 7), (4, 1, 6, 3, 13),
          (2, 1, 2, 1, 127)]
NAMES = ["a", "show", "set", "z9", "b12345678901", "cut"]
MAKERS = (Session, Desk)


class OwnSession:
    """A session by [182]: lines are read by one pattern, and done by the test's own store; errors are tuples, too."""

    def __init__(self, names, own):
        self.names, self.own = list(names), own
        self.model = Model(own, OwnDisks(own))
        self.model.step()
        name, number = "(?:" + "|".join(names) + ")", "(?:0|[1-9][0-9]{0,2})"
        pair = f"{name}(?: {number}){{{own.d}}}"
        pairs = f"{pair}(?: {pair}){{0,{own.k - 1}}}"
        self.pattern = re.compile(f"(?:(?:set|begin) {pairs}|step|finish|show(?: {name})?|disks|why|cut(?: {number} {number} (?:{number}|-))*"
                                  f"|(?:lose|replace|take|lacks) {number})")

    def order(self, line):
        """The word and what is behind it, or None for what is no line."""
        if not isinstance(line, str) or not self.pattern.fullmatch(line):
            return None
        word, *words = line.split(" ")
        if word in ("set", "begin"):
            rows = [words[at:at + 1 + self.own.d] for at in range(0, len(words), 1 + self.own.d)]
            wish = sorted((self.names.index(row[0]), tuple(map(int, row[1:]))) for row in rows)
            right = len(dict(wish)) == len(wish) and all(item < self.own.q for _, row in wish for item in row)
            return (word, wish) if right else None
        if word == "cut":
            left = [(int(disk), int(block), None if item == "-" else int(item)) for disk, block, item in zip(*[iter(words)] * 3)]
            right = all(disk < self.own.n and block < len(self.own.places[disk]) and (item is None or item < self.own.q)
                        for disk, block, item in left)
            return (word, left) if right else None
        if word in ("lose", "replace", "take", "lacks"):
            return (word, int(words[0])) if int(words[0]) < self.own.n else None
        return (word, self.names.index(words[0]) if words else None)

    def do(self, line):
        order = self.order(line)
        if order is None:
            return (InvalidText, line)
        found = getattr(self, "do_" + order[0])(order[1])
        return found if isinstance(found, (str, tuple)) else None

    def is_opening(self):
        return self.model.work == ("opening",)

    def do_begin(self, wish):
        return self.model.begin(wish) or "begun"

    def do_set(self, wish):
        found = self.model.begin(wish)
        return found or (self.do_finish(None) and "done")

    def do_step(self, _):
        step = self.model.step()
        return step if isinstance(step[0], type) else " ".join(map(str, step))

    def do_finish(self, _):
        if self.model.work is None:
            return (NoWork,)
        while self.model.work is not None:
            self.model.step()
        return "finished"

    def do_show(self, record):
        if self.is_opening():
            return (NotOpen,)
        records = self.own.read(self.model.now())
        words = [word for name, row in zip(self.names, records) for word in [name, *row]]
        return " ".join(map(str, words if record is None else records[record]))

    def do_disks(self, _):
        there, ins = self.model.disks.there, self.model.disks.inside()
        return " ".join("in" if disk in ins else "there" if disk in there else "lost" for disk in range(self.own.n))

    def do_cut(self, left):
        places = [row[:2] for row in left]
        if len(set(places)) < len(places):
            return (InvalidLeft, left)
        pending = [write[:2] for write in self.model.disks.writes]
        for disk, block, item in left:
            if (disk, block) not in pending or item is None and self.model.disks.there[disk].get(block) is not None:
                return (NotLeft, (disk, block, item))
        self.model.cut(left)
        return "cut"

    def do_lose(self, disk):
        return self.model.lose(disk) or "lost"

    def do_replace(self, disk):
        return self.model.replace(disk) or "replaced"

    def do_take(self, disk):
        return self.model.take_in(disk) or "begun"

    def do_why(self, _):
        settled = self.model.disks.rows([])
        lot = self.own.told_lot(settled)
        if lot is None:
            return "none"
        heads = [head for head, _ in self.own.view(settled)][:self.own.j + 1]
        return " ".join(map(str, ["lot", *[self.names[record] for record in lot], "by", *heads]))

    def do_lacks(self, disk):
        row = self.model.disks.rows([])[disk]
        return "lost" if row is None else str(row.index(None)) if None in row else "nothing"


def some_pairs(own, names, chance):
    records = chance.sample(range(own.m), chance.randint(1, own.k))
    return " ".join(f"{names[record]} " + " ".join(str(chance.randrange(own.q)) for _ in range(own.d)) for record in records)


def some_line(own, names, chance, model):
    """A line, of which most can be done."""
    word = chance.choice(["step"] * 10 + "set set begin begin begin finish show show disks cut lose replace take take why lacks".split())
    if word in ("set", "begin"):
        return f"{word} {some_pairs(own, names, chance)}"
    if word == "show" and chance.random() < 0.5:
        return f"show {chance.choice(names)}"
    if word == "cut":
        left = model.disks.some_left(chance)
        if chance.random() < 0.1:
            left = left + left[:1] + [(0, 0, 0)][:chance.randrange(2)]
        return " ".join(["cut", *[f"{disk} {block} {'-' if item is None else item}" for disk, block, item in left]])
    if word in ("lose", "replace", "take", "lacks"):
        return f"{word} {chance.randrange(own.n)}"
    return word


def some_lines(numbers, seed, count):
    """Lines that can all be done, one behind the other."""
    own, chance = OwnBlocks(*numbers), random.Random(seed)
    session, lines = OwnSession(NAMES[:own.m], own), []
    while len(lines) < count:
        line = some_line(own, session.names, chance, session.model)
        if isinstance(session.do(line), str):
            lines.append(line)
    return lines


class Base(Checks, unittest.TestCase):
    def make(self, numbers, maker=Session):
        own = OwnBlocks(*numbers)
        names = NAMES[:own.m]
        return maker(names, Array(*numbers)), OwnSession(names, own)

    def check_line(self, session, own, line):
        """What the line returns, or raises, is what it does in the test's own session; tells it."""
        wanted = own.do(line)
        if isinstance(wanted, str):
            self.check_same(wanted, session.do(line))
        else:
            error = caught(session.do, line)
            self.assertEqual((type(error), *vars(error).values()), wanted)
        return wanted

    def check_text(self, session, line):
        for call in (session.do,):
            self.check_given(InvalidText, line, call, line)


class Names(Base):
    def wrong_names(self):
        yield from [*no_lists(), [], ["a"], ["a", "b", "c"], ["a", "a"], ("b", "b"), ["ab", "ab"], [["a", "b"]], "ab", {"a": 1, "b": 2}]
        for name in ["", " ", "A", "aB", "1a", "9", "_a", "a_b", "a b", " a", "a ", "a-b", "a.", "-", "a" * 13, "a1234567890123", "a\n", "\u00e4", "a\u0664",
                     "\u0430", "a\u00b2", "\uff41", None, True, 0, 1, b"a", ["a"], ("a",), {"a": 1}, Plain(), Touchy()]:
            yield ["b", name]
            yield (name, "b")

    def test_right_names(self):
        for names in (["a", "b"], ("a", "b"), ["a1", "a"], ["set", "cut"], ["a" * 12, "a" * 11], ["z00000000000", "q9"], ["show", "step"]):
            for maker in MAKERS:
                self.assertEqual(maker(names, Array(3, 1, 2, 1, 5)).do("show"), f"{names[0]} 0 0 {names[1]} 0 0")
            self.check_same([f"{names[0]} 0 0 {names[1]} 0 0"], play(names, Array(3, 1, 2, 1, 5), ["show"]))

    def test_wrong_names(self):
        array = Array(3, 1, 2, 1, 5)
        for names in self.wrong_names():
            for maker in MAKERS:
                self.check_given(InvalidNames, names, maker, names, array)
            for lines in ([], ["show"], [None], ["show"] * 401):
                self.check_given(InvalidNames, names, play, names, array, lines)
                self.check_given(InvalidNames, names, history_of, names, array, lines)

    def test_as_many_names_as_records(self):
        for numbers in ARRAYS + [(1, 0, 24, 12, 997)]:
            array, names = Array(*numbers), [f"n{record}" for record in range(24)]
            for count in range(25):
                for maker in MAKERS:
                    error = caught(maker, names[:count], array)
                    self.assertIs(type(error), type(None) if count == array.records else InvalidNames)

    def test_names_that_are_changed_behind_it(self):
        for maker in MAKERS:
            names = ["a", "b"]
            session = maker(names, Array(3, 1, 2, 1, 5))
            names[0] = "c"
            names.append("d")
            self.assertEqual(session.do("show"), "a 0 0 b 0 0")
            self.check_given(InvalidText, "show c", session.do, "show c")


class Lines(Base):
    def test_examples(self):
        array = Array(3, 1, 2, 1, 5)
        lines = ["set b 1 3", "show", "lose 1", "disks", "begin a 2 0", "step", "cut 0 3 4", "step", "show b"]
        self.check_same(["done", "a 0 0 b 1 3", "lost", "in lost in", "begun", "write 0 3 2", "cut", "open", "1 3"], play(["a", "b"], array, lines))
        self.check_same([("wish", [(1, (1, 3))]), ("cut",), ("told", [(0, 0), (0, 0)])],
                        history_of(["a", "b"], array, ["begin b 1 3", "step", "cut", "finish", "show a"]))
        lines = ["begin b 1 3", "step", "step", "step", "step", "step", "step", "why", "step", "step", "why", "lose 1", "replace 1", "lacks 1"]
        self.check_same(["none", "write 1 2 2", "sync", "lot b by 0 1", "lost", "replaced", "0"], play(["a", "b"], array, lines)[7:])
        self.check_given(InvalidText, "set a 1", Session(["a", "b"], array).do, "set a 1")
        error = caught(play, ["a", "b"], array, ["show", "cut", "show"])
        self.assertEqual([type(error), error.at], [BadLine, 2])

    def right_lines(self, own, names):
        contents = [" ".join(str((start + at) % own.q) for at in range(own.d)) for start in (0, 1, own.q - 1)]
        pairs = [f"{name} {row}" for name in names for row in contents]
        yield from (f"{word} {pair}" for word in ("set", "begin") for pair in pairs)
        for count in range(2, own.k + 1):
            some = [f"{name} {contents[at % 3]}" for at, name in enumerate(names[:count])]
            yield from ("set " + " ".join(some), "begin " + " ".join(some[::-1]))
        yield from ["step", "finish", "show", "disks", "why", "cut", "cut 0 0 0", "cut 0 0 -", *[f"show {name}" for name in names]]
        for disk in range(own.n):
            yield from [f"lose {disk}", f"replace {disk}", f"take {disk}", f"lacks {disk}", f"cut {disk} {len(own.places[disk]) - 1} {own.q - 1}"]

    def test_right_lines_are_read(self):
        for numbers in ARRAYS:
            session, own = self.make(numbers)
            for line in self.right_lines(own.own, own.names):
                self.assertIsNotNone(own.order(line), line)
                other, same = copy.deepcopy(session), copy.deepcopy(own)
                self.check_line(other, same, line)

    def near_lines(self, line):
        """The line with one thing wrong, or not."""
        words = line.split(" ")
        yield from [line + " ", " " + line, line.replace(" ", "  ", 1), line.replace(" ", "\t", 1), line.replace(" ", "\n", 1), line + "\n", line + "\r", line.upper(),
                    line.title(), line + " 0", line + " " + words[0], line[:-1], line[1:], line + ".", line + line, line + " " + line, "", " "]
        for at, word in enumerate(words):
            others = ["", "-", "--", "set", "x", "A", word + word, word + "x", "\u00a0"]
            if word.isdigit():
                others += ["0" + word, "00" + word, "+" + word, "-" + word, word + "0", word + "000", word + ".0", "0x" + word, "1000", "999", "00", "000", "\u0661",
                           "\u00b2", "\uff11", "1_0", "1e1", str(int(word) + 1), str(int(word) - 1), "5", "7", "13", "127", "126"]
            for other in others:
                yield " ".join(words[:at] + [other] + words[at + 1:])
            yield " ".join(words[:at] + words[at + 1:])
            yield " ".join(words[:at] + [word, word] + words[at + 1:])

    def test_lines_near_lines(self):
        seen = {True: 0, False: 0}
        for numbers in ARRAYS:
            session, own = self.make(numbers)
            for line in sorted({near for line in self.right_lines(own.own, own.names) for near in self.near_lines(line)}):
                right = own.order(line) is not None
                seen[right] += 1
                if right:
                    self.assertIsNot(type(caught(copy.deepcopy(session).do, line)), InvalidText, line)
                else:
                    self.check_text(session, line)
        self.assertGreater(min(seen.values()), 300)

    def test_what_is_no_line(self):
        for numbers in ARRAYS[2:4]:
            for maker in MAKERS:
                session, own = self.make(numbers, maker)
                for value in [None, True, 0, 1, b"show", ["show"], ("show",), [], {}, {"show": 1}, Plain(), Touchy(), "", "shows", "undo", "redo", "lines",
                              "show a show", "show x", "show -", "step 1", "finish a", "disks 0", "why 0", "cut 0", "cut 0 0", "cut 0 0 0 0", "cut - 0 0",
                              "cut 0 - 0", "cut 0 0 --", "lose", "lose a", "lose 0 1", "replace", "take", "lacks", "lacks 0 0", "set", "begin", "opening", "none"]:
                    self.assertIsNone(own.order(value))
                    self.check_text(session, value)

    def test_pairs(self):
        session, own = self.make((4, 1, 6, 3, 13))
        for line in ["set a 1 2 3 show 1 2 3 set 1 2 3", "set set 1 2 3", "set cut 1 2 3 a 4 5 6", "begin z9 12 0 12"]:
            self.assertIsNotNone(own.order(line))
            self.assertNotIn(type(caught(copy.deepcopy(session).do, line)), (InvalidText,))
        for line in ["set a 1 2 3 show 1 2 3 set 1 2 3 z9 1 2 3", "set a 1 2 3 a 1 2 3", "set a 1 2 3 show 1 2", "set a 1 2", "set a 1 2 3 4", "set 1 2 3", "set a 1 2 13",
                     "set a 1 2 - ", "set a 1 2 -1", "set a a a a", "set a 1 2 3 4 5 6", "set b 1 2 3"]:
            self.assertIsNone(own.order(line))
            self.check_text(session, line)
        self.assertEqual([session.do("set z9 1 2 3 a 4 5 6"), session.do("show"), session.do("show z9")],
                         ["done", "a 4 5 6 show 0 0 0 set 0 0 0 z9 1 2 3 b12345678901 0 0 0 cut 0 0 0", "1 2 3"])

    def test_three_figures(self):
        session, own = self.make((2, 1, 2, 1, 127))
        for line in ["set a 126", "show a", "begin show 100", "step", "cut 0 4 126", "finish", "show"]:
            self.assertIsInstance(self.check_line(session, own, line), str, line)
        for line in ["set a 127", "set a 0126", "set a 1000", "set a 00", "cut 0 0 127", "lose 00", "lacks 01"]:
            self.assertEqual(self.check_line(session, own, line), (InvalidText, line))


class Answers(Base):
    def test_drawn_lines(self):
        seen = {}
        for numbers in ARRAYS:
            for seed in range(4):
                session, own = self.make(numbers, MAKERS[seed % 2])
                chance = random.Random(seed)
                for _ in range(300):
                    line = some_line(own.own, own.names, chance, own.model)
                    found = self.check_line(session, own, line)
                    key = line.split(" ")[0], found.split(" ")[0] if isinstance(found, str) else found[0].__name__
                    seen[key] = seen.get(key, 0) + 1
        wanted = [("set", "done"), ("set", "NotOpen"), ("set", "Busy"), ("begin", "begun"), ("begin", "NotOpen"), ("begin", "Busy"), ("step", "write"), ("step", "sync"),
                  ("step", "open"), ("step", "done"), ("step", "in"), ("step", "NoWork"), ("finish", "finished"), ("finish", "NoWork"), ("show", "NotOpen"),
                  ("cut", "cut"), ("cut", "InvalidLeft"), ("cut", "NotLeft"), ("lose", "lost"), ("lose", "IsLost"), ("lose", "TooManyLost"),
                  ("replace", "replaced"), ("replace", "NotLost"), ("take", "begun"), ("take", "IsLost"), ("take", "Busy"), ("take", "NotOpen"), ("why", "none"),
                  ("why", "lot"), ("lacks", "nothing"), ("lacks", "lost"), ("lacks", "0"), ("disks", "in"), ("disks", "lost"), ("disks", "there")]
        for key in wanted:
            self.assertGreater(seen.get(key, 0), 2, key)

    def test_each_error(self):
        session, own = self.make((3, 1, 2, 1, 5))
        for line, wanted in [("step", (NoWork,)), ("finish", (NoWork,)), ("replace 0", (NotLost, 0)), ("cut 0 0 0", (NotLeft, (0, 0, 0))),
                             ("cut 0 0 0 0 0 1", (InvalidLeft, [(0, 0, 0), (0, 0, 1)])), ("lose 2", "lost"), ("lose 2", (IsLost, 2)), ("take 2", (IsLost, 2)),
                             ("lose 0", (TooManyLost, 2)), ("begin show 1 2", "begun"), ("set a 1 1", (Busy, ("wish", [(1, (1, 2))]))), ("step", "write 0 3 1"),
                             ("cut 0 3 -", (NotLeft, (0, 3, None))), ("cut 1 3 0", (NotLeft, (1, 3, 0))), ("cut 0 3 1 0 0 2", (NotLeft, (0, 0, 2))),
                             ("cut 0 3 0", "cut"), ("set a 1 1", (NotOpen,)), ("begin a 1 1", (NotOpen,)), ("show", (NotOpen,)), ("show a", (NotOpen,)),
                             ("take 0", (NotOpen,)), ("take 2", (NotOpen,)), ("disks", "in in lost"), ("why", "none"), ("lacks 2", "lost"), ("finish", "finished"),
                             ("show", "a 0 0 show 0 0")]:
            self.assertEqual(own.do(line) if line != "" else None, wanted, line)
            if isinstance(wanted, str):
                self.check_same(wanted, session.do(line))
            else:
                error = caught(session.do, line)
                self.assertEqual((type(error), *vars(error).values()), wanted)

    def test_the_list_of_a_cut_with_a_block_twice(self):
        session, _ = self.make((3, 1, 2, 1, 5))
        error = caught(session.do, "cut 2 0 1 0 3 - 2 0 1")
        self.assertIs(type(error), InvalidLeft)
        self.check_same([(2, 0, 1), (0, 3, None), (2, 0, 1)], error.given)
        other = caught(session.do, "cut 2 0 1 0 3 - 2 0 1")
        self.assertIsNot(error.given, other.given)

    def test_disks_lacks_and_why_in_each_state(self):
        session, own = self.make((4, 2, 3, 2, 7))
        lines = ["lose 1", "lose 3", "disks", "lacks 1", "lacks 0", "replace 3", "disks", "lacks 3", "take 3", "step", "step", "disks", "lacks 3", "cut 3 0 5", "lacks 3", "disks",
                 "step", "take 3", "step", "step", "step", "step", "step", "lacks 3", "step", "lacks 3", "finish", "disks", "lacks 3", "why", "begin a 1 2 show 3 4"]
        for line in lines:
            self.assertIsInstance(self.check_line(session, own, line), str, line)
        found = []
        while own.model.work is not None:
            for line in ("why", "disks", "lacks 1", "lacks 2"):
                found.append(self.check_line(session, own, line))
            self.check_line(session, own, "step")
        self.assertIn("lot a show by 0 2", found)
        self.assertIn("none", found)

    def test_what_changes_nothing(self):
        session, own = self.make((3, 1, 2, 2, 5))
        for line in ["set a 1 2", "begin show 3 3", "step", "step", "step"]:
            self.check_line(session, own, line)
        for line in ["show", "show a", "disks", "why", "lacks 0", "lacks 2", "step x", "set a 1 1", "cut 0 0 0", "replace 0", "take 0", "nothing", None]:
            before = own.model.told()
            self.check_line(session, own, line)
            self.assertEqual(own.model.told(), before)
        for _ in range(60):
            self.check_line(session, own, "step")
            self.check_line(session, own, "show")

    def test_a_second_session_is_apart(self):
        array = Array(3, 1, 2, 1, 5)
        one, other = Session(["a", "b"], array), Session(["a", "b"], array)
        one.do("set a 1 2")
        self.assertEqual([one.do("show a"), other.do("show a")], ["1 2", "0 0"])


class Plays(Base):
    def test_plays_of_drawn_lines(self):
        for numbers in ARRAYS:
            for seed in range(3):
                lines = some_lines(numbers, seed, 60)
                own = OwnSession(NAMES[:numbers[2]], OwnBlocks(*numbers))
                wanted = [own.do(line) for line in lines]
                for form in (lines, tuple(lines)):
                    self.check_same(wanted, play(NAMES[:numbers[2]], Array(*numbers), form))

    def test_400_and_401_lines(self):
        array, names = Array(1, 0, 2, 1, 3), ["a", "b"]
        for line, answer in [("show", "a 0 b 0"), ("set a 1", "done"), ("disks", "in")]:
            self.check_same([answer] * 400, play(names, array, [line] * 400))
            self.assertEqual(len(history_of(names, array, [line] * 400)), {"show": 400, "set a 1": 800, "disks": 0}[line])
        for lines in (["show"] * 401, ("show",) * 401, ["no line"] * 401, [None] * 1000, ["cut", *["show"] * 500]):
            self.check_count(TooMany, len(lines), play, names, array, lines)
            self.check_count(TooMany, len(lines), history_of, names, array, lines)
        for lines in (["show"] * 399 + ["step"], ["no line"] * 400):
            self.check_bad(lines.index(lines[-1]), names, array, lines)

    def check_bad(self, at, names, array, lines):
        for function in (play, history_of):
            error = caught(function, names, array, lines)
            self.assertIs(type(error), BadLine)
            self.check_same(at, error.at)

    def test_bad_lines(self):
        array, names = Array(3, 1, 2, 1, 5), ["a", "b"]
        wrong = [None, 0, True, [], "", "shows", "step", "finish", "set a 1", "replace 0", "cut 0 0 0", "cut 0 0 0 0 0 0", "take 3", "lose 3", Plain(), Touchy()]
        for bad in wrong:
            for ahead in ([], ["show"], ["set a 1 1", "disks", "cut", "finish"]):
                self.check_bad(len(ahead), names, array, ahead + [bad])
                self.check_bad(len(ahead), names, array, ahead + [bad, "show", bad])
        self.check_bad(2, names, array, ["begin a 1 1", "step", "begin a 1 1", "set a 1 1"])
        self.check_bad(1, names, array, ["cut", "show", "show"])
        self.check_bad(3, names, array, ["lose 0", "disks", "replace 0", "lose 1"])

    def test_no_lines(self):
        for lines in ([], ()):
            self.check_same([], play(["a", "b"], Array(3, 1, 2, 1, 5), lines))
            self.check_same([], history_of(["a", "b"], Array(3, 1, 2, 1, 5), lines))

    def own_history(self, names, own, lines):
        session, events = OwnSession(names, own), []
        for line in lines:
            count = len(session.model.answered)
            session.do(line)
            word, behind = session.order(line)
            if word in ("set", "begin"):
                events.append(("wish", behind))
            if len(session.model.answered) > count:
                events.append(("done",))
            if word == "cut":
                events.append(("cut",))
            if word == "show":
                events.append(("told", own.read(session.model.now())))
        return events

    def test_histories_of_drawn_lines(self):
        chance = random.Random(183)
        for numbers in ARRAYS:
            array, own, names = Array(*numbers), OwnBlocks(*numbers), NAMES[:numbers[2]]
            for seed in range(4):
                lines = some_lines(numbers, 50 + seed, 150)
                wanted = self.own_history(names, own, lines)
                found = history_of(names, array, chance.choice([lines, tuple(lines)]))
                self.check_same(wanted, found)
                self.assertIs(is_history(array, found), True)
                error = caught(is_right, array, [(0,) * own.d] * own.m, found)
                if type(error) is not TooMany:
                    self.assertIs(is_right(array, [(0,) * own.d] * own.m, found), True)

    def test_every_event(self):
        array, names = Array(3, 1, 2, 2, 5), ["a", "b"]
        told = ("told", [(1, 2), (0, 0)])
        for lines, events in [(["set a 1 2", "show"], [("wish", [(0, (1, 2))]), ("done",), told]),
                              (["set b 0 0 a 1 2", "show b"], [("wish", [(0, (1, 2)), (1, (0, 0))]), ("done",), told]),
                              (["begin a 1 2", "finish", "show a"], [("wish", [(0, (1, 2))]), ("done",), told]),
                              (["begin a 1 2", *["step"] * 22, "disks", "step"], [("wish", [(0, (1, 2))]), ("done",)]),
                              (["begin a 1 2", *["step"] * 22, "disks"], [("wish", [(0, (1, 2))])]),
                              (["cut", "finish", "cut", "step", "show"], [("cut",), ("cut",), ("told", [(0, 0), (0, 0)])]),
                              (["lose 0", "replace 0", "take 0", "finish", "why", "lacks 0", "disks"], []),
                              (["begin a 1 2", "cut", "finish", "lose 0", "replace 0", "take 0", "finish"], [("wish", [(0, (1, 2))]), ("cut",)])]:
            self.check_same(events, history_of(names, array, lines))

    def test_told_lists_are_new(self):
        array, names, lines = Array(3, 1, 2, 2, 5), ["a", "b"], ["set a 1 2", "show", "show a", "begin b 1 1", "show"]
        found = self.check_new_lists(history_of, names, array, lines)
        for event in list(found):
            for part in event:
                if isinstance(part, list):
                    part.append(9)
        found.append(9)
        self.check_new_lists(play, names, array, lines).append(9)
        self.assertEqual([names, lines], [["a", "b"], ["set a 1 2", "show", "show a", "begin b 1 1", "show"]])


class Desks(Base):
    def follow(self, numbers, lines):
        """The test's own session behind these lines."""
        own = OwnSession(NAMES[:numbers[2]], OwnBlocks(*numbers))
        for line in lines:
            own.do(line)
        return own

    def probe(self, desk, numbers, lines):
        """The desk is as a session behind these lines, at once and in what comes."""
        self.check_same(lines, desk.lines())
        own, other = self.follow(numbers, lines), copy.deepcopy(desk)
        for line in ["show", "disks", "why", "lacks 0", "cut 0 0 0", *["step"] * 6, "show", "finish", "show", "set a" + " 1" * own.own.d, "cut", "step", "show", "disks"]:
            self.check_line(other, own, line)

    def test_undo_and_redo(self):
        for numbers in ARRAYS[1:7]:
            desk, _ = self.make(numbers, Desk)
            lines = some_lines(numbers, 184, 25)
            for line in lines:
                desk.do(line)
            for count in range(24, -1, -1):
                self.assertIsNone(desk.undo())
                if count % 3 == 0:
                    self.probe(desk, numbers, lines[:count])
            self.check_end(desk.undo, NothingToUndo)
            for count in range(1, 26):
                self.assertIsNone(desk.redo())
                if count % 4 == 1:
                    self.probe(desk, numbers, lines[:count])
            self.check_end(desk.redo, NothingToRedo)
            self.probe(desk, numbers, lines)

    def check_end(self, call, error_class):
        for _ in range(2):
            error = caught(call)
            self.assertIs(type(error), error_class)
            self.assertEqual(vars(error), {})

    def test_a_new_desk(self):
        desk, _ = self.make((3, 1, 2, 1, 5), Desk)
        self.check_same([], desk.lines())
        self.check_end(desk.undo, NothingToUndo)
        self.check_end(desk.redo, NothingToRedo)
        self.probe(desk, (3, 1, 2, 1, 5), [])

    def test_lines_that_are_refused(self):
        numbers = (3, 1, 2, 1, 5)
        desk, _ = self.make(numbers, Desk)
        wrong = ["step", "finish", "set a 1", None, "replace 0", "cut 0 0 0", "cut 0 0 0 0 0 1", "take 5"]
        for line in wrong:
            self.assertIsNotNone(caught(desk.do, line))
        self.check_same([], desk.lines())
        self.check_end(desk.undo, NothingToUndo)
        desk.do("set a 1 2")
        desk.do("set a 3 4")
        desk.undo()
        for line in wrong:
            self.assertIsNotNone(caught(desk.do, line))
        # A line that raises an error is no new line: what was undone can still be done again.
        self.assertIsNone(desk.redo())
        self.probe(desk, numbers, ["set a 1 2", "set a 3 4"])
        for line in wrong:
            self.assertIsNotNone(caught(desk.do, line))
        desk.undo()
        self.probe(desk, numbers, ["set a 1 2"])

    def test_behind_a_new_line_there_is_nothing_to_redo(self):
        numbers = (3, 1, 2, 1, 5)
        for new in ("set a 2 2", "show", "disks", "lose 0"):
            desk, _ = self.make(numbers, Desk)
            for line in ["set a 1 1", "set show 1 1", "lose 1"]:
                desk.do(line)
            desk.undo()
            desk.undo()
            desk.redo()
            desk.undo()
            desk.do(new)
            self.check_end(desk.redo, NothingToRedo)
            self.probe(desk, numbers, ["set a 1 1", new])
            desk.undo()
            desk.redo()
            self.check_end(desk.redo, NothingToRedo)
            self.probe(desk, numbers, ["set a 1 1", new])

    def test_a_line_done_again_is_no_new_line(self):
        desk, _ = self.make((3, 1, 2, 1, 5), Desk)
        lines = ["set a 1 1", "begin show 1 1", "step", "show"]
        for line in lines:
            desk.do(line)
        for _ in lines:
            desk.undo()
        for count in range(1, 5):
            desk.redo()
            self.assertEqual(desk.lines(), lines[:count])
        self.check_end(desk.redo, NothingToRedo)

    def test_amid_all_works(self):
        # Undone amid an opening, a wish and a taking in, with writes pending, and with disks lost and replaced.
        numbers = (4, 2, 3, 2, 7)
        desk, _ = self.make(numbers, Desk)
        lines = ["begin a 1 2", "step", "step", "lose 3", "step", "step", "step", "cut 0 4 3", "step", "step", "finish", "replace 3", "take 3", "step", "step", "step", "lose 3",
                 "replace 3", "take 3", "step", "step", "finish", "cut", "finish", "show", "set show 3 3"]
        done = []
        for line in lines:
            if isinstance(self.follow(numbers, done).do(line), str):
                done.append(line)
                desk.do(line)
                desk.undo()
                self.probe(desk, numbers, done[:-1])
                desk.redo()
        self.assertGreater(len(done), 20)
        self.probe(desk, numbers, done)

    def test_drawn_undoing(self):
        chance = random.Random(184)
        for numbers in ARRAYS[1:6]:
            desk, own = self.make(numbers, Desk)
            standing, undone = [], []
            for _ in range(120):
                act = chance.choice(["do"] * 5 + ["undo"] * 3 + ["redo"] * 3)
                if act == "do":
                    line = some_line(own.own, own.names, chance, self.follow(numbers, standing).model)
                    if isinstance(self.check_line(desk, self.follow(numbers, standing), line), str):
                        standing, undone = standing + [line], []
                elif act == "undo" and standing:
                    desk.undo()
                    standing, undone = standing[:-1], undone + standing[-1:]
                elif act == "redo" and undone:
                    desk.redo()
                    standing, undone = standing + undone[-1:], undone[:-1]
                else:
                    self.check_end(getattr(desk, act), NothingToUndo if act == "undo" else NothingToRedo)
                self.check_same(standing, desk.lines())
            self.probe(desk, numbers, standing)

    def test_the_lines_make_the_same_on_a_new_desk(self):
        numbers = (3, 1, 2, 2, 5)
        desk, _ = self.make(numbers, Desk)
        for line in some_lines(numbers, 9, 40):
            desk.do(line)
        for _ in range(13):
            desk.undo()
        other, _ = self.make(numbers, Desk)
        for line in desk.lines():
            other.do(line)
        for line in ["show", "disks", "why", "step", "step", "finish", "show"]:
            first, second = (caught(one.do, line) for one in (copy.deepcopy(desk), copy.deepcopy(other)))
            self.assertIs(type(first), type(second))
            if first is None:
                self.assertEqual(desk.do(line), other.do(line))

    def test_told_lists_are_new(self):
        desk, _ = self.make((3, 1, 2, 1, 5), Desk)
        desk.do("set a 1 1")
        self.check_new_lists(desk.lines).append("show")
        self.check_same(["set a 1 1"], desk.lines())

    def test_200_lines(self):
        desk, _ = self.make((4, 1, 6, 3, 13), Desk)
        lines = [f"set a {at % 13} 1 2" for at in range(200)]
        for line in lines:
            desk.do(line)
        for _ in range(150):
            desk.undo()
        self.assertEqual([desk.lines(), desk.do("show a")], [lines[:50], f"{49 % 13} 1 2"])


if __name__ == "__main__":
    unittest.main()
