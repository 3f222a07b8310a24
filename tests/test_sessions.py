"""Points 171 to 173, and what points 2, 8, 9 and 10 say of sessions."""

import re
import unittest

from leastspare.disks import Disk
from leastspare.errors import (BadLine, Busy, InvalidChanges, InvalidContents, InvalidNames, InvalidText, NotLeft, NoWish,
                               SpareError, TooMany)
from leastspare.histories import is_history, is_right
from leastspare.layouts import Layout
from leastspare.sessions import Session, history_of, play
from tests.model import Model
from tests.support import NO_INTEGERS, fixed_numbers, no_fillings, no_lists, raises, raises_equal, raises_too_many

LETTERS = "abcdefghijklmnopqrstuvwxyz"
PAIRS = re.compile(r"(set|begin)((?: [a-z][a-z0-9]* (?:0|[1-9][0-9]*))+)")

# Values of every kind and texts that are none of the lines of a session of the names "a" and "b".
NO_LINES = no_lists() + no_fillings() + [
    "Show", "SHOW", " show", "show ", "show  a", "show a ", "show a b", "show c", "show A", "show 0", "show ab", "\tshow",
    "show\n", "show\ta", "step ", " step", "step 1", "step a", "steps", "rest a", "rest ", "left a", "left 0", "cut", "cut ",
    "cut a", "cut 0 0", "cut  0", "cut 00", "cut 01", "cut -0", "cut -1", "cut +1", "cut 1.0", "cut 1_0", "cut 0x1",
    "cut 1e1", "cut 243", "cut 244", "cut 0 ", "cut " + "9" * 60, "cut " + "0" * 5000, "cut " + "1" * 5000, "cut 1" + "0" * 4999,
    "set", "set ", "set a", "set a ", "set a 0 ", "set  a 0", "set a  0", " set a 0", "set a 0 b", "set a 3", "set a -1",
    "set a +1", "set a 00", "set a 01", "set a 0 a 0", "set a 0 a 1", "set c 0", "set 0 a", "set A 0", "set a 0 b 0 a 0",
    "set a b", "set a 0 c 0", "set ab 0", "set a " + "1" * 5000, "set a " + "0" * 5000, "set " + "a" * 5000 + " 0", "set a 1\n",
    "begin", "begin a", "begin a 3", "begin a 0 a 0", "begin b 0 b 0", "begin a 0 b 0 ", "begin  a 0", "begin c 1", "begin a one",
    "set a 0, b 0", "set b 0 a", "a 0", "a", "0", " ", "  ", "\n", "set a 1\u0661", "cut \u0661", "cut \u00b2", "set \uff41 0",
    "show\u00a0a", "show \u0430", "settle", "set a \u0660", b"show", "set a 1 b 3", "set a 10", "begin a 1 b 10",
]


class Told:
    """A session as the document tells of one, with a drive and a store of its own."""

    def __init__(self, names, changes, contents, torn):
        self.names, self.torn = names, torn
        self.model = Model(len(names), changes, contents)
        self.settled, self.pending = (0,) * self.model.blocks, []
        self.steps, self.wish, self.events = [], None, []

    def now(self):
        return self.model.behind(self.settled, self.pending)

    def do(self, line):
        """What is returned, or the tuple of an error's class and attribute."""
        words = line.split(" ")
        if PAIRS.fullmatch(line):
            wish = sorted(zip([self.names.index(name) if name in self.names else -1 for name in words[1::2]],
                              [int(word) for word in words[2::2]]))
            if len({record for record, _ in wish}) == len(wish) <= self.model.changes and wish[0][0] >= 0 and \
                    all(content < self.model.contents for _, content in wish):
                return self.begin(words[0], wish)
        if line in ("step", "rest"):
            if self.wish is None:
                return NoWish, None
            return self.step() if line == "step" else [self.step() for _ in list(self.steps)][-1]
        if line == "show" or words[0] == "show" and len(words) == 2 and words[1] in self.names:
            told = self.model.read(self.now())
            self.events.append(("told", told))
            shown = [f"{name} {told[at]}" for at, name in enumerate(self.names)]
            return " ".join(shown) if line == "show" else str(told[self.names.index(words[1])])
        if line == "left":
            many = self.many_left()
            return str(many) if many <= 20000 else (TooMany, many)
        if re.fullmatch("cut (0|[1-9][0-9]{0,40})", line) and int(words[1]) < self.model.contents ** self.model.blocks:
            return self.cut(int(words[1]))
        return InvalidText, line

    def begin(self, word, wish):
        if self.wish is not None:
            return Busy, self.wish
        self.wish = wish
        self.events.append(("wish", wish))
        self.steps = []
        for group in self.model.plan(self.now(), wish):
            self.steps += [("write", *write) for write in group] + [("sync",)] * (len(group) > 0)
        self.steps.append(("done",))
        return "begun" if word == "begin" else [self.step() for _ in list(self.steps)][-1]

    def step(self):
        step, *self.steps = self.steps
        if step[0] == "write":
            self.pending.append(step[1:])
        elif step[0] == "sync":
            self.settled, self.pending = self.now(), []
        else:
            self.events.append(step)
            self.wish = None
        return " ".join(map(str, step))

    def choices(self):
        found = []
        for block, content in enumerate(self.settled):
            made = {other for at, other in self.pending if at == block}
            found.append(set(range(self.model.contents)) if made and self.torn else {content} | made)
        return found

    def many_left(self):
        many = 1
        for choice in self.choices():
            many *= len(choice)
        return many

    def cut(self, number):
        filling = ()
        for _ in range(self.model.blocks):
            number, content = divmod(number, self.model.contents)
            filling = (content, *filling)
        if not all(content in choice for content, choice in zip(filling, self.choices())):
            return NotLeft, filling
        self.settled, self.pending, self.steps, self.wish = filling, [], [], None
        self.events.append(("cut",))
        return "cut"

    def lines(self, numbers):
        """A line that looks random; most of them are lines of this session."""
        def pairs():
            many = 1 + next(numbers) % self.model.changes
            names = sorted(self.names, key=lambda name: next(numbers))[:many + next(numbers) % 10 // 9]
            return " ".join(f"{name} {next(numbers) % (self.model.contents + next(numbers) % 10 // 9)}" for name in names)
        def number():
            if next(numbers) % 5 == 0:
                return next(numbers) % self.model.contents ** self.model.blocks
            filling = [sorted(choice)[next(numbers) % len(choice)] for choice in self.choices()]
            found = 0
            for content in filling:
                found = found * self.model.contents + content
            return found
        name = self.names[next(numbers) % len(self.names)]
        kinds = ["step"] * 6 + ["left"] * 2 + ["rest", "show", f"show {name}", f"set {pairs()}"]
        kinds += [f"begin {pairs()}"] * 3 + [f"cut {number()}"] * 2 + [f"show {name}{name}", f"begin {name}"]
        return kinds[next(numbers) % len(kinds)]


def error_of(call):
    """The tuple of the class and the attribute of the error that a call raises, or what it returns."""
    try:
        return call()
    except SpareError as error:
        return type(error), (list(vars(error).values()) or [None])[0]


KINDS = [(["a"], 1, 2), (["a", "b"], 1, 3), (["a", "b"], 2, 2), (["set", "show", "cut"], 2, 3), (["a", "ab", "abc", "b"], 3, 2),
         (["left", "rest", "step", "begin", "set"], 2, 4), (["z9", "a" * 12, "z", "z99"], 4, 5), (["b", "a"], 2, 64),
         (list("hgfedcba"), 8, 3), (list("hgfedcba"), 4, 11), (["p", "q", "r"], 3, 64)]


class Examples(unittest.TestCase):
    def test_of_the_interface(self):
        found = play(["a", "b"], 2, 3, ["set b 2", "show", "begin a 1", "step", "show a", "left", "rest", "show"])
        self.assertEqual(found, ["done", "a 0 b 2", "begun", "write 0 0", "0", "3", "done", "a 1 b 2"])
        self.assertEqual(play(["b", "a"], 2, 3, ["set a 2 b 1", "show", "cut 16"]), ["done", "b 1 a 2", "cut"])
        found = history_of(["a"], 1, 2, ["begin a 1", "step", "cut 0", "show a"])
        self.assertEqual(found, [("wish", [(0, 1)]), ("cut",), ("told", (0,))])
        with raises_equal(self, InvalidText, "given", "set a 1 b 2"):
            Session(["a", "b"], 1, 3).do("set a 1 b 2")
        with raises_equal(self, BadLine, "at", 1):
            play(["a"], 1, 2, ["show", "step"])


class Sessions(unittest.TestCase):
    def test_layouts(self):
        for names in (["a"], ["b", "a"], ("x1", "x"), list("abcdefgh")):
            for changes in range(1, len(names) + 1):
                session = Session(names, changes, 5)
                self.assertEqual(session.layout, Layout(len(names), changes, 5))
        self.assertEqual(Session(contents=2, changes=1, names=["a"], torn=False).layout, Layout(1, 1, 2))
        with self.assertRaises(TypeError):
            Session(["a"], 1, 2, True)

    def test_names_that_are_right(self):
        for name in [*LETTERS, "a0", "z9", "a123456789", "abcdefghijkl", "a" * 12, "a" + "0" * 11, "set", "show", "step"]:
            session = Session([name], 1, 2)
            self.assertEqual(session.do(f"set {name} 1"), "done")
            self.assertEqual((session.do("show"), session.do(f"show {name}")), (f"{name} 1", "1"))

    def test_names_that_are_wrong(self):
        words = ["", "a" * 13, "a" * 5000, "A", "aB", "0", "0a", "9", "_", "a_", "a b", " a", "a ", "a-", "\u00e4", "a\u00e4",
                 "\u0430", "a\u0661", "a\u00b2", "a\n", "\n", "a.", "-a", b"a", 0, 1, ("a",), ["a"], Disk(1, 2), *NO_INTEGERS]
        for word in [word for word in words if word != "a"]:
            for names in ([word], ["b", word], [word, "b"]):
                with self.subTest(names), raises(self, InvalidNames, "given", names):
                    Session(names, 1, 2)
        for names in no_lists() + [[], (), ["a", "a"], ["a", "b", "a"], list("abcdefghi"), list("abcdefgh") * 2, "abc", {"a": 1},
                                   ("b", "b"), [["a"]], [("a", "b")], [None, "a"]]:
            with self.subTest(names), raises(self, InvalidNames, "given", names):
                Session(names, 1, 2)

    def test_a_list_of_names_that_grows_behind_the_call(self):
        names = ["a", "b"]
        session = Session(names, 1, 2)
        self.assertEqual(names, ["a", "b"])
        names.append("c")
        names[0] = "d"
        self.assertEqual((session.do("set a 1"), session.do("show"), session.layout), ("done", "a 1 b 0", Layout(2, 1, 2)))
        for line in ("show c", "show d", "set c 1"):
            with raises(self, InvalidText, "given", line):
                session.do(line)

    def test_errors_in_order(self):
        for call, more in [(Session, []), (play, [[]]), (play, [["show"] * 401]), (play, [["no"]]), (history_of, [[]]),
                           (history_of, [["show"] * 401]), (history_of, [["no"]])]:
            for names in ([], ["A"], None, ["a", "a"]):
                for changes, contents in [(1, 2), (0, 2), (1, 1)]:
                    with raises(self, InvalidNames, "given", names):
                        call(names, changes, contents, *more)
            for changes in [0, 3, -1, 10 ** 60, *NO_INTEGERS]:
                for contents in (2, 1, None):
                    with self.subTest(changes), raises(self, InvalidChanges, "given", changes):
                        call(["a", "b"], changes, contents, *more)
            for contents in [1, 65, 0, -2, 10 ** 60, *NO_INTEGERS]:
                with self.subTest(contents), raises(self, InvalidContents, "given", contents):
                    call(["a", "b"], 2, contents, *more)


class Lines(unittest.TestCase):
    def test_against_a_session_of_ones_own(self):
        met = {}
        for seed, (names, changes, contents) in enumerate(KINDS):
            for torn in (True, False):
                session, told = Session(names, changes, contents, torn=torn), Told(names, changes, contents, torn)
                numbers = fixed_numbers(172 + seed)
                for _ in range(700):
                    line = told.lines(numbers)
                    found, expected = error_of(lambda: session.do(line)), told.do(line)
                    self.assertEqual(found, expected, line)
                    self.assertIs(type(found), type(expected))
                    if type(found) is tuple and found[0] is Busy:
                        self.assertIs(type(found[1]), list)
                    kind = (found[0] if type(found) is tuple else "", line.split(" ")[0])
                    met[kind] = met.get(kind, 0) + 1
        self.assertGreater(met[TooMany, "left"], 1)
        self.assertGreater(met[NotLeft, "cut"], 100)
        self.assertGreater(met["", "cut"], 500)
        self.assertGreater(min(met[Busy, "set"], met[Busy, "begin"], met[NoWish, "step"], met[NoWish, "rest"]), 50)

    def test_each_form(self):
        # Two blocks of records, two news, and the mark; 2 is the least content of class B.
        session = Session(["x", "y"], 2, 4)
        for line, text in [
                ("show", "x 0 y 0"), ("set y 3", "done"), ("show y", "3"), ("show x", "0"), ("set y 0 x 1", "done"),
                ("show", "x 1 y 0"), ("left", "1"), ("begin x 2", "begun"), ("left", "1"), ("step", "write 0 1"),
                ("left", "4"), ("step", "write 1 0"), ("left", "16"), ("step", "sync"), ("left", "1"), ("step", "write 4 0"),
                ("left", "4"), ("step", "sync"), ("show", "x 1 y 0"), ("step", "write 2 2"), ("step", "write 3 0"),
                ("show", "x 1 y 0"), ("step", "sync"), ("step", "write 4 2"), ("show", "x 2 y 0"), ("step", "sync"),
                ("step", "done"), ("left", "1"), ("cut 290", "cut"), ("show", "x 2 y 0"), ("begin x 2 y 1", "begun"),
                ("step", "write 0 2"), ("rest", "done"), ("show x", "2"), ("begin y 3", "begun"), ("rest", "done"),
                ("begin y 0", "begun"), ("step", "write 0 2"), ("cut 878", "cut"), ("show", "x 2 y 3"), ("set y 1", "done")]:
            self.assertEqual(session.do(line), text, line)

    def test_values_that_are_no_lines(self):
        for torn in (True, False):
            session = Session(["a", "b"], 2, 3, torn=torn)
            session.do("set a 2 b 1")
            busy = Session(["a", "b"], 2, 3, torn=torn)
            busy.do("begin a 2 b 1")
            for line in NO_LINES:
                for each in (session, busy):
                    with self.subTest(line), raises(self, InvalidText, "given", line):
                        each.do(line)
            self.assertEqual((session.do("show"), busy.do("rest"), busy.do("show")), ("a 2 b 1", "done", "a 2 b 1"))

    def test_each_number_of_a_filling(self):
        # Two records of which two change have five blocks; all of 2 ** 5 can be left while all blocks are pending.
        for number in range(33):
            session = Session(["a", "b"], 2, 2)
            session.do("set a 1 b 1")
            if number == 32:
                with raises_equal(self, InvalidText, "given", "cut 32"):
                    session.do("cut 32")
                continue
            filling = tuple(int(figure) for figure in format(number, "05b"))
            if filling == (0, 0, 1, 1, 1):
                self.assertEqual(session.do(f"cut {number}"), "cut")
            else:
                with raises_equal(self, NotLeft, "filling", filling):
                    session.do(f"cut {number}")
            self.assertEqual(session.do("show"), "a 1 b 1")

    def test_the_greatest_number(self):
        names, numbers = list("abcdefgh"), 64 ** 14
        session = Session(names, 4, 64)
        self.assertEqual(session.layout.spare, 7)
        many = 64 ** 15
        for number in (many, many + 1, many * 10 ** 20):
            with self.subTest(number), raises_equal(self, InvalidText, "given", f"cut {number}"):
                session.do(f"cut {number}")
        with raises_equal(self, NotLeft, "filling", (63,) * 15):
            session.do(f"cut {many - 1}")
        with raises_equal(self, NotLeft, "filling", (1,) + (0,) * 14):
            session.do(f"cut {numbers}")
        self.assertEqual(session.do("cut 0"), "cut")

    def test_text_ahead_of_all_else(self):
        session = Session(["a", "b"], 1, 3)
        session.do("begin a 1")
        for line in ("set a 3", "begin a 0 b 0", "begin a 0 a 0", "set c 0", "begin", "cut 243", "step 1", "rest now", "left 1"):
            with raises(self, InvalidText, "given", line):
                session.do(line)
        for line in ("set a 2", "begin b 0", "begin a 1"):
            with raises_equal(self, Busy, "wish", [(0, 1)]):
                session.do(line)
        session.do("rest")
        for line in ("step", "rest"):
            with self.assertRaises(NoWish) as caught:
                session.do(line)
            self.assertEqual((type(caught.exception), vars(caught.exception)), (NoWish, {}))

    def test_left_with_too_many(self):
        session = Session(["a", "b", "c"], 3, 64)
        session.do("begin a 1 b 2 c 3")
        told = [session.do(line) for line in ("left", "step", "left", "step", "left", "step")]
        self.assertEqual(told, ["1", "write 3 1", "64", "write 4 2", "4096", "write 5 3"])
        with raises_too_many(self, 262144):
            session.do("left")
        self.assertEqual([session.do(line) for line in ("step", "left", "step", "left", "show", "rest", "left")],
                         ["sync", "1", "write 6 32", "64", "a 1 b 2 c 3", "done", "1"])
        whole = Session(["a", "b", "c"], 3, 64, torn=False)
        told = [whole.do(line) for line in ("begin a 1 b 2 c 3", "step", "step", "step", "left")]
        self.assertEqual(told[-1], "8")

    def test_torn_is_let_where_whole_is_not(self):
        # Behind the first wish (0, 2, 1) stands; a write of 2 to block 0 may leave 1 there only if it is torn.
        for given, left in [({}, "3"), ({"torn": True}, "3"), ({"torn": False}, "2")]:
            session = Session(["a"], 1, 3, **given)
            told = [session.do(line) for line in ("set a 2", "begin a 1", "step", "left")]
            self.assertEqual(told, ["done", "begun", "write 0 2", left])
            if left == "3":
                self.assertEqual((session.do("cut 16"), session.do("show")), ("cut", "a 2"))
            else:
                with raises_equal(self, NotLeft, "filling", (1, 2, 1)):
                    session.do("cut 16")
                self.assertEqual((session.do("cut 25"), session.do("show a")), ("cut", "2"))

    def test_nothing_changes_behind_a_refusal(self):
        lines = ["set a 2", "begin b 1 a 0", "step", "step", "step", "step", "show", "step", "step", "step", "step", "left",
                 "step", "show", "step", "step", "left", "show", "set b 0", "show"]
        for torn in (True, False):
            session, told = Session(["a", "b"], 2, 3, torn=torn), Told(["a", "b"], 2, 3, torn)
            for line in lines:
                wrong = ["set a 9", "begin c 0", "rest it", "cut 243", "no", ""]
                wrong += ["set a 1", "begin a 1"] if told.wish is not None else ["step", "rest"]
                if told.many_left() == 1:
                    # No cut leaves this one now.
                    wrong += ["cut 1"]
                for other in wrong:
                    with self.subTest(line=line, other=other), self.assertRaises(SpareError):
                        session.do(other)
                self.assertEqual(session.do(line), told.do(line))

    def test_names_in_any_order(self):
        session = Session(["b", "c", "a"], 3, 4)
        self.assertEqual([session.do(line) for line in ("set a 1 b 2 c 3", "show", "set c 0 a 2", "show", "show a")],
                         ["done", "b 2 c 3 a 1", "done", "b 2 c 0 a 2", "2"])
        with raises_equal(self, Busy, "wish", [(0, 1), (2, 3)]):
            session.do("begin a 3 b 1")
            session.do("begin c 1")

    def test_by_name(self):
        self.assertEqual(Session(["a"], 1, 2).do(line="show"), "a 0")


class Plays(unittest.TestCase):
    def drawn(self, seed, names, changes, contents, torn, many):
        """Lines that a session takes, with what it returns and the events."""
        numbers, told, lines, texts = fixed_numbers(seed), Told(names, changes, contents, torn), [], []
        while len(lines) < many:
            line = told.lines(numbers)
            text = told.do(line)
            if type(text) is str:
                lines.append(line)
                texts.append(text)
        return lines, texts, told.events

    def test_beside_a_session_asked_line_by_line(self):
        for seed, (names, changes, contents) in enumerate(KINDS):
            for torn in (True, False):
                lines, texts, events = self.drawn(seed, names, changes, contents, torn, 120)
                session = Session(names, changes, contents, torn=torn)
                self.assertEqual([session.do(line) for line in lines], texts)
                self.assertEqual(play(names, changes, contents, lines, torn=torn), texts)
                self.assertEqual(play(tuple(names), changes, contents, tuple(lines), torn=torn), texts)
                found = history_of(names, changes, contents, lines, torn=torn)
                self.assertEqual(found, events)
                self.assertEqual({type(event) for event in found} | {tuple}, {tuple})
                self.assertEqual({type(event[1]) for event in found if event[0] == "wish"} - {list}, set())

    def test_histories_are_right(self):
        for seed, (names, changes, contents) in enumerate(KINDS):
            for torn in (True, False):
                lines, _, _ = self.drawn(100 + seed, names, changes, contents, torn, 150)
                layout = Layout(len(names), changes, contents)
                for many in (150, 60):
                    events = history_of(names, changes, contents, lines[:many], torn=torn)
                    self.assertIs(is_history(layout, events), True)
                    try:
                        self.assertIs(is_right(layout, (0,) * len(names), events), True)
                    except TooMany:
                        continue
                    told = history_of(names, changes, contents, lines[:many] + ["show"], torn=torn)
                    self.assertIs(is_right(layout, (0,) * len(names), told), True)

    def test_each_event(self):
        lines = ["show a", "set a 1 b 2", "begin b 1", "left", "show", "step", "rest", "show b", "begin a 0", "step", "cut 40",
                 "left", "begin a 2", "rest", "begin b 2"]
        # By 40, a torn write to block 0, of (2, 1, 1, 1, 1), leaves 0 there.
        expected = [("told", (0, 0)), ("wish", [(0, 2), (1, 1)]), ("done",), ("wish", [(0, 1)]), ("told", (2, 1)), ("done",),
                    ("told", (1, 1)), ("wish", [(1, 0)]), ("cut",), ("wish", [(1, 2)]), ("done",), ("wish", [(0, 2)])]
        self.assertEqual(history_of(["b", "a"], 2, 3, lines), expected)

    def test_telling_while_a_wish_is_under_way(self):
        # From the write to the mark on it is told with the wish.
        lines = ["begin a 1", "step", "step", "show", "step", "show a", "step", "show", "step", "show"]
        found = history_of(["a", "b"], 1, 2, lines)
        self.assertEqual(found, [("wish", [(0, 1)]), ("told", (0, 0)), ("told", (0, 0)), ("told", (1, 0)), ("told", (1, 0))])

    def test_done_by_step_by_rest_and_by_set(self):
        for lines in (["begin a 1"] + ["step"] * 5, ["begin a 1", "rest"], ["begin a 1", "step", "rest"], ["set a 1"]):
            self.assertEqual(history_of(["a"], 1, 2, lines), [("wish", [(0, 1)]), ("done",)])
        self.assertEqual(history_of(["a"], 1, 2, ["begin a 1"] + ["step"] * 4), [("wish", [(0, 1)])])
        self.assertEqual(history_of(["a"], 1, 2, ["left", "cut 0", "left"]), [("cut",)])
        self.assertEqual((history_of(["a"], 1, 2, []), play(["a"], 1, 2, [])), ([], []))

    def test_400_lines_and_401(self):
        for call, one in [(play, ["a 0"]), (history_of, [("told", (0,))])]:
            self.assertEqual(call(["a"], 1, 2, ["show"] * 400), one * 400)
            for lines in (["show"] * 401, [None] * 401, ["no"] + ["show"] * 400, ["left"] * 1000):
                with raises_too_many(self, len(lines)):
                    call(["a"], 1, 2, lines)

    def test_bad_lines(self):
        for call in (play, history_of):
            for wrong in [*NO_LINES, "step", "rest", "cut 1", "show c"]:
                for at in (0, 1, 3):
                    lines = ["show", "set a 1 b 1", "left", "show a", "left"]
                    lines[at] = wrong
                    lines[4] = "step"
                    with self.subTest(wrong), raises_equal(self, BadLine, "at", at):
                        call(["a", "b"], 2, 3, lines)
            with raises_equal(self, BadLine, "at", 399):
                call(["a"], 1, 2, ["show"] * 399 + ["show b"])
            with raises_equal(self, BadLine, "at", 1):
                call(["a"], 1, 2, ["begin a 1", "begin a 0", "no"])
            with raises_equal(self, BadLine, "at", 2):
                call(["a"], 1, 2, ["begin a 1", "step", "set a 1"])

    def test_a_bad_line_where_too_many_are_left(self):
        lines = ["begin a 1 b 2 c 3", "step", "step", "left", "step", "left", "no"]
        for call in (play, history_of):
            with raises_equal(self, BadLine, "at", 5):
                call(["a", "b", "c"], 3, 64, lines)
            with raises_equal(self, BadLine, "at", 6):
                call(["a", "b", "c"], 3, 64, lines, torn=False)

    def test_lists_passed_and_returned(self):
        names, lines = ["a", "b"], ["set a 1 b 1", "begin b 0", "rest", "show"]
        first = history_of(names, 2, 2, lines)
        first[0][1].clear()
        first.clear()
        play(names, 2, 2, lines).clear()
        found = history_of(names, 2, 2, lines)
        self.assertEqual(found, [("wish", [(0, 1), (1, 1)]), ("done",), ("wish", [(1, 0)]), ("done",), ("told", (1, 0))])
        self.assertEqual((names, lines), (["a", "b"], ["set a 1 b 1", "begin b 0", "rest", "show"]))

    def test_by_name(self):
        given = {"lines": ["begin a 1", "step", "left"], "contents": 3, "changes": 1, "names": ["a"]}
        self.assertEqual((play(**given)[-1], play(torn=False, **given)[-1]), ("3", "2"))
        self.assertEqual(history_of(torn=True, **given), history_of(torn=False, **given))
        for call in (play, history_of):
            with self.assertRaises(TypeError):
                call(["a"], 1, 3, [], True)
