"""Promises 17.1 to 17.3: the desk, and what 0.1 to 0.11 say of it."""

import inspect
import itertools
import random
import unittest

from lawseries import errors
from lawseries.base.ratios import Ratio
from lawseries.double.doubles import Double
from lawseries.height.heights import law_of_height
from lawseries.law.laws import Law
from lawseries.log.logs import differential, law_of_log
from lawseries.row.rows import Row
from lawseries.step.steps import law_of_steps
from lawseries.use import desk as desks
from lawseries.use.desk import Desk, is_pledge
from tests.support import (
    LONG, SIXTY, Checks, bad, no_counts, no_integers, no_laws, no_objects, no_rows, no_tuples,
    others_than, package_objects, some_desk,
)

TIMES, PLUS = Law.multiplicative(4, 1), Law.additive(4)
FIVE = Law.multiplicative(6, 1, modulus=5)
BROKEN = law_of_log(Row((0, 1, Ratio(1, 4), 0)))
BENT = Row((0, 1, 2, 3, 4))
HALF = Row((0, 1, Ratio(1, 2), 0, 0))
NEWS = [
    "put", "load", "bind", "fold", "turn", "drop", "rename", "demand", "waive",
]


def full_desk():
    """A desk with laws and rows of some moduli, with pledges, and with changes in both ways."""
    desk = Desk()
    desk.put("times", TIMES)
    desk.put("plus", PLUS)
    desk.put("five", FIVE)
    desk.put("broken", BROKEN)
    desk.load("bent", BENT)
    desk.load("half", HALF)
    desk.fold("two", "times", 2)
    desk.fold("modular", "five", 5)
    desk.demand(("whole", "times"))
    desk.demand(("fold", "two", "times", 2))
    desk.demand(("height", "five", 1))
    desk.drop("bent")
    desk.waive(("height", "five", 1))
    desk.undo(many=2)
    return desk


def redo_count(desk):
    twin, many = desk.twin(), 0
    while True:
        try:
            twin.redo()
        except errors.NothingToUndo:
            return many
        many += 1


def kept(desk):
    """All that can be seen of a desk."""
    laws = {name: desk.law_named(name) for name in desk.names if is_law_name(desk, name)}
    rows = {name: desk.row_named(name) for name in desk.names if name not in laws}
    told = [str(given.double.entries.keys()) for given in laws.values()]
    return (laws, rows, desk.names, desk.lines, desk.pledges, desk.changes, redo_count(desk), told)


def is_law_name(desk, name):
    return any(line.startswith(f"law {name}:") for line in desk.lines)


def calling(desk, name):
    """A call of a method of a fresh twin, which sees that an error changes nothing."""
    def call(*arguments):
        twin = desk.twin()
        before = kept(twin)
        try:
            return getattr(twin, name)(*arguments)
        except Exception:
            if kept(twin) != before:
                raise AssertionError(f"{name} has changed the desk")
            raise
    return call


def line_of(name, value):
    if isinstance(value, Law):
        return f"law {name}: {value} with {differential(value)}"
    return f"row {name}: {value}"


def no_names():
    """What is no name."""
    wrong = [value for value in no_objects() if value not in ("a", "abc")]
    return wrong + package_objects() + ["abcdefghi", "A", "aB", "a1", "a b", "a_b", ("a",), ["a"], {"a": 1}]


def fresh_names(*used):
    """No fresh name: what is no name, and used ones."""
    return bad(errors.InvalidOperation, no_names() + list(used))


def unknown(*names):
    """What no law, or no row, is called: each with the error that keeps it."""
    return no_names() + ["nothing", "zzzzzzzz", *names]


class DeskChecks(Checks):
    def unknown_refused(self, value, call, *arguments):
        error = self.refused(errors.UnknownName, call, *arguments)
        self.assertIs(error.name, value)

    def raised(self, error, value, call, *arguments):
        if error is errors.UnknownName:
            self.unknown_refused(value, call, *arguments)
        else:
            super().raised(error, value, call, *arguments)

    def too_many(self, limit, call, *arguments):
        self.assertEqual(self.refused(errors.TooMany, call, *arguments).limit, limit)

    def pledge_refused(self, pledge, call, *arguments):
        self.assertEqual(self.refused(errors.Refused, call, *arguments).reason, pledge)


class TestInterface(Checks):
    def test_interface(self):
        self.assertEqual((desks.MAX_LAWS, desks.MAX_ROWS, desks.MAX_PLEDGES), (6, 6, 10))
        told = {
            is_pledge: "(value)", Desk: "()", Desk.put: "(self, name, given)",
            Desk.load: "(self, name, row)", Desk.bind: "(self, name, given, one, other)",
            Desk.fold: "(self, name, given, number)", Desk.turn: "(self, given, row)",
            Desk.drop: "(self, name)", Desk.rename: "(self, names)", Desk.demand: "(self, pledge)",
            Desk.waive: "(self, pledge)", Desk.undo: "(self, *, many=1)", Desk.redo: "(self, *, many=1)",
            Desk.trial: "(self)", Desk.during: "(self, call)", Desk.twin: "(self)",
            Desk.law_named: "(self, name)", Desk.row_named: "(self, name)",
        }
        for call, signature in told.items():
            self.assertEqual(call.__module__, "lawseries.use.desk")
            self.assertEqual(str(inspect.signature(call)), signature)
            if call.__name__ != call.__qualname__:
                self.assertIn(call.__name__, vars(Desk))
        properties = ["names", "lines", "pledges", "changes"]
        for name in properties + ["__contains__", "__len__", "__iter__", "__eq__", "__str__"]:
            self.assertIn(name, vars(Desk))


class TestChanges(DeskChecks):
    """Each change, its news, what it can be taken back to, and its errors."""

    def check_change(self, desk, name, *arguments):
        """Makes a change, takes it back and does it again; returns the desk behind it."""
        before = kept(desk)
        news = getattr(desk, name)(*arguments)
        after = kept(desk)
        self.assertEqual(news, self.news(before[3], after[3]))
        self.assertEqual((desk.changes, redo_count(desk)), (before[5] + 1, 0))
        self.assertEqual(desk.undo(), (news[1], news[0]))
        self.assertEqual(kept(desk)[:6], before[:6])
        self.assertEqual(desk.redo(), news)
        self.assertEqual(kept(desk), after)
        return desk

    def news(self, before, after):
        gone = tuple(sorted(set(before) - set(after)))
        return gone, tuple(sorted(set(after) - set(before)))

    def test_put_and_load(self):
        desk = Desk()
        for name, value in (("b", TIMES), ("abcdefgh", BENT), ("a", FIVE), ("z", HALF), ("law", BROKEN), ("row", Row((3,)))):
            call = "put" if isinstance(value, Law) else "load"
            self.check_change(desk, call, name, value)
            held = desk.law_named(name) if call == "put" else desk.row_named(name)
            self.assertEqual(held, value)
        self.assertEqual(desk.names, ("a", "abcdefgh", "b", "law", "row", "z"))
        self.assertEqual(desk.lines, (
            "law a: law of degree 6 modulo 5 with 1 + 4*x + x^2 + 4*x^3 + x^4 + 4*x^5 to 5 modulo 5",
            "law b: law of degree 4 with 1 - x + x^2 - x^3 to 3",
            "law law: law of degree 3 with 1 + 1/2*x to 2",
            "row abcdefgh: x + 2*x^2 + 3*x^3 + 4*x^4 to 4",
            "row row: 3 to 0",
            "row z: x + 1/2*x^2 to 4",
        ))
        desk = full_desk()
        names = fresh_names(*desk.names)
        self.check_errors(calling(desk, "put"), ("abcdefgh", PLUS), [names, no_laws()])
        self.check_errors(calling(desk, "load"), ("abcdefgh", BENT), [names, no_rows()])

    def test_too_many(self):
        desk = Desk()
        for name in "abcdef":
            desk.put(name, TIMES)
        self.too_many(6, calling(desk, "put"), "g", TIMES)
        self.refused(errors.InvalidLaw, calling(desk, "put"), "g", BENT)
        self.refused(errors.InvalidOperation, calling(desk, "put"), "a", TIMES)
        for name in "ghijkl":
            desk.load(name, BENT)
        self.too_many(6, calling(desk, "load"), "m", BENT)
        self.too_many(6, calling(desk, "bind"), "m", "a", "g", "h")
        self.too_many(6, calling(desk, "fold"), "m", "a", 2)
        self.refused(errors.InvalidRow, calling(desk, "load"), "m", TIMES)
        self.unknown_refused("z", calling(desk, "bind"), "m", "z", "g", "h")
        self.count_refused(1001, calling(desk, "fold"), "m", "a", 1001)
        desk.drop("a")
        self.check_change(desk, "put", "a", PLUS)

    def test_bind(self):
        desk = full_desk()
        for name, given, one, other in (("c", "times", "bent", "two"), ("d", "plus", "half", "half"),
                                        ("e", "five", "modular", "modular"), ("f", "broken", "two", "bent")):
            twin = desk.twin()
            self.check_change(twin, "bind", name, given, one, other)
            wanted = desk.law_named(given).sum_of(desk.row_named(one), desk.row_named(other))
            self.assertEqual(twin.row_named(name), wanted)
        desk.load("whole", Row((1, 1)))
        laws = bad(errors.UnknownName, unknown("bent", "two"))
        rows = bad(errors.UnknownName, unknown("times", "five"))
        then = [(errors.InvalidOperation, told) for told in [
            ("new", "times", "bent", "modular"), ("new", "five", "bent", "two"), ("new", "times", "modular", "bent"),
            ("new", "times", "whole", "bent"), ("new", "times", "bent", "whole"), ("new", "five", "modular", "bent")]]
        names = fresh_names(*desk.names)
        self.check_errors(calling(desk, "bind"), ("new", "times", "bent", "two"), [names, laws, rows, rows], then)
        desk.load("full", BENT)
        # The sixth row is there: what cannot be added is told ahead of it.
        self.assertEqual(len([line for line in desk.lines if line.startswith("row")]), 6)
        self.refused(errors.InvalidOperation, calling(desk, "bind"), "new", "times", "whole", "bent")
        self.refused(errors.InvalidOperation, calling(desk, "bind"), "new", "times", "bent", "modular")
        self.refused(errors.InvalidOperation, calling(desk, "bind"), "new", "five", "modular", "bent")
        self.too_many(6, calling(desk, "bind"), "new", "times", "two", "bent")

    def test_fold(self):
        for number in (0, 1, -1, 2, 7, 1000, -1000):
            for given in ("times", "plus", "five", "broken"):
                desk = full_desk()
                self.check_change(desk, "fold", "new", given, number)
                self.assertEqual(desk.row_named("new"), desk.law_named(given).multiple(number))
        desk = full_desk()
        laws = bad(errors.UnknownName, unknown("bent", "two"))
        counts = bad(errors.InvalidCount, no_counts(-1000, 1000))
        self.check_errors(calling(desk, "fold"), ("new", "five", 1000), [fresh_names(*desk.names), laws, counts])

    def test_sums_of_folds(self):
        """17.3: what is bound of the k-fold and the l-fold is the (k + l)-fold."""
        for given, k, l in itertools.product((TIMES, FIVE, BROKEN, law_of_steps((1, 0, -1, 2))), (-3, 0, 2), (1, 5, -500)):
            desk = Desk()
            desk.put("one", given)
            desk.fold("k", "one", k)
            desk.fold("l", "one", l)
            desk.bind("both", "one", "k", "l")
            desk.demand(("fold", "both", "one", k + l))
            self.assertEqual(len(desk), 1)

    def test_turn(self):
        desk = full_desk()
        desk.waive(("fold", "two", "times", 2))
        desk.load("low", Row((0, 1, 5)))
        for given, row in (("times", "bent"), ("plus", "half"), ("broken", "two"), ("plus", "low")):
            twin = desk.twin()
            self.check_change(twin, "turn", given, row)
            wanted = desk.law_named(given).changed(desk.row_named(row))
            self.assertEqual(twin.law_named(given), wanted)
            self.assertEqual(twin.names, desk.names)
        desk.load("short", Row((0, 1)))
        laws = bad(errors.UnknownName, unknown("bent", "two"))
        rows = bad(errors.UnknownName, unknown("times", "five"))
        then = [(errors.InvalidOperation, told) for told in (
            ("five", "bent"), ("times", "modular"), ("five", "modular"), ("times", "short"))]
        self.check_errors(calling(desk, "turn"), ("plus", "bent"), [laws, rows], then)

    def test_turn_keeps_not_each_row(self):
        """17.3: not true."""
        desk = Desk()
        desk.put("one", TIMES)
        desk.load("bent", BENT)
        desk.fold("two", "one", 2)
        pledge = ("leads", "two", "one", "one")
        desk.demand(pledge)
        self.pledge_refused(pledge, calling(desk, "turn"), "one", "bent")
        desk.turn("one", "two")

    def test_drop(self):
        for name in full_desk().names:
            desk = full_desk()
            if name in ("times", "two"):
                pledge = ("whole", "times") if name == "times" else ("fold", "two", "times", 2)
                self.pledge_refused(pledge, calling(desk, "drop"), name)
                continue
            if name == "five":
                desk.waive(("height", "five", 1))
            self.check_change(desk, "drop", name)
            self.assertNotIn(name, desk.names)
            self.unknown_refused(name, desk.law_named, name)
            self.unknown_refused(name, desk.row_named, name)
        wrong = bad(errors.UnknownName, unknown())
        self.check_errors(calling(full_desk(), "drop"), ("half",), [wrong])

    def test_rename(self):
        desk = some_desk()
        desk.waive(("whole", "one"))
        desk.load("two", BENT)
        for names in ({"one": "two", "two": "one"}, {"two": "abcdefgh", "one": "one"}, {"one": "b", "two": "a"}):
            twin = desk.twin()
            self.check_change(twin, "rename", names)
            self.assertEqual(twin.names, tuple(sorted(names.values())))
            self.assertEqual(twin.law_named(names["one"]), desk.law_named("one"))
            self.assertEqual(twin.row_named(names["two"]), desk.row_named("two"))
        wrong = [{}, {"one": "a"}, {"one": "a", "two": "a"}, {"one": "a", "two": "b", "c": "d"}, {"one": "a", "c": "b"}]
        wrong += [{"one": "a", "two": value} for value in no_names()] + [(("one", "a"), ("two", "b")), ["one", "two"]]
        wrong += [{"one": "a", 2: "b"}, {"one": "a", None: "b"}, {"one": "a", ("two",): "b"}, {"a": "one", "b": "two"}]
        wrong = bad(errors.InvalidOperation, wrong + no_objects() + package_objects())
        self.check_errors(calling(desk, "rename"), ({"one": "a", "two": "b"},), [wrong])
        empty = Desk()
        self.assertEqual(empty.rename({}), ((), ()))
        self.assertEqual(empty.changes, 1)
        names = {"one": "a"}
        desk = some_desk()
        self.pledge_refused(("whole", "one"), calling(desk, "rename"), names)
        self.assertEqual(names, {"one": "a"})
        desk.put("other", PLUS)
        # Pledges stay as they are: the other law is called one now, and is whole as well.
        desk.rename({"one": "other", "other": "one"})
        self.assertEqual((desk.law_named("one"), desk.pledges), (PLUS, (("whole", "one"),)))

    def test_demand_and_waive(self):
        desk = full_desk()
        desk.waive(("height", "five", 1))
        self.check_change(desk, "demand", ("height", "five", 1))
        self.check_change(desk, "waive", ("whole", "times"))
        self.assertEqual(desk.pledges, (("fold", "two", "times", 2), ("height", "five", 1)))
        wrong = bad(errors.InvalidPledge, no_pledges())
        then = [(errors.InvalidOperation, (pledge,)) for pledge in desk.pledges]
        self.check_errors(calling(desk, "demand"), (("whole", "bent"),), [wrong], then)
        wrong = bad(errors.InvalidOperation, no_pledges() + [("whole", "times"), ("fold", "two", "times", 3)])
        self.check_errors(calling(desk, "waive"), (("height", "five", 1),), [wrong])

    def test_too_many_pledges(self):
        desk = Desk()
        desk.put("one", PLUS)
        pledges = [("whole", "one")]
        for number, name in enumerate(("ka", "kb", "kc", "kd", "ke")):
            desk.fold(name, "one", number)
            pledges += [("fold", name, "one", number), ("whole", name)]
        last = pledges.pop()
        for pledge in pledges:
            desk.demand(pledge)
        self.assertEqual((len(desk), desk.pledges), (10, tuple(pledges)))
        self.too_many(10, calling(desk, "demand"), last)
        self.too_many(10, calling(desk, "demand"), ("whole", "nothing"))
        self.refused(errors.InvalidOperation, calling(desk, "demand"), pledges[3])
        self.refused(errors.InvalidPledge, calling(desk, "demand"), "whole")
        desk.waive(pledges[0])
        self.check_change(desk, "demand", last)


def no_pledges():
    wrong = [(), ("whole",), ("whole", "one", "two"), ("whole", "One"), ("whole", 1), ("fold", "a", "b"), ("a", "b")]
    wrong += [("fold", "a", "b", 1001), ("fold", "a", "b", -1001), ("fold", "a", "b", True), ("fold", "a", "b", "1")]
    wrong += [("fold", "a", "b", 1, 2), ("fold", "a", 1, "b"), ("fold", "a", "b", "c"), ("fold", "", "b", 1)]
    wrong += [("leads", "a", "b"), ("leads", "a", "b", 1), ("leads", "a", "b", "c", "d"), ("leads", "a", "B", "c")]
    wrong += [("height", "a"), ("height", "a", "b"), ("height", "a", True), ("height", "a", None), ("height", 1, 1)]
    wrong += [("height", "a", LONG), ("height", "abcdefghi", 1), ("heights", "a", 1), ("Whole", "a"), ("whole ", "a")]
    wrong += [["whole", "one"], {"whole": "one"}, "whole", (("whole",), "one"), (["whole"], "one"), (None, "one")]
    wrong += [("height", "a", 1, "b"), ("leads", "a", "b", "c" * 9), (Row((1,)), "one"), (Ratio(1), "a", 1)]
    for value in no_names():
        wrong += [("whole", value), ("fold", value, "a", 1), ("fold", "a", value, 1), ("leads", "a", "b", value)]
        wrong += [(value, "one"), ("height", value, 1)]
    wrong += [("height", "a", value) for value in no_integers() + package_objects()]
    wrong += [("fold", "a", "b", value) for value in no_integers() + package_objects()]
    return wrong + no_tuples() + package_objects()


class TestPledges(DeskChecks):
    def test_judging(self):
        good = [("whole", "a"), ("whole", "abcdefgh"), ("fold", "a", "b", 1000), ("fold", "a", "a", -1000)]
        good += [("fold", "a", "b", 0), ("leads", "a", "b", "c"), ("leads", "a", "a", "a"), ("height", "a", 0)]
        good += [("height", "a", SIXTY), ("height", "a", -1), ("whole", "whole")]
        for value in good:
            self.assertIs(is_pledge(value), True)
        for value in no_pledges() + no_objects():
            self.assertIs(is_pledge(value), False)

    def desk(self):
        desk = Desk()
        for name, given in (("times", TIMES), ("plus", PLUS), ("five", FIVE), ("broken", BROKEN),
                            ("high", law_of_height(2, 8, 2)), ("four", Law.multiplicative(4, 1, modulus=4))):
            desk.put(name, given)
        desk.load("bent", BENT)
        desk.load("half", HALF)
        desk.fold("two", "times", 2)
        desk.load("modular", FIVE.multiple(3))
        desk.load("zero", Row((0,) * 5))
        desk.load("short", TIMES.multiple(2).cut(3))
        return desk

    def test_which_hold(self):
        holding = [
            ("whole", "times"), ("whole", "plus"), ("whole", "bent"), ("whole", "two"), ("fold", "two", "times", 2),
            ("fold", "modular", "five", 3), ("fold", "modular", "five", 3 + 25), ("fold", "zero", "times", 0),
            ("fold", "zero", "plus", 0), ("leads", "two", "times", "times"), ("leads", "zero", "times", "plus"),
            ("leads", "modular", "five", "five"), ("height", "five", 1), ("height", "high", 2), ("leads", "zero", "plus", "times"),
        ]
        not_holding = [
            ("whole", "five"), ("whole", "broken"), ("whole", "half"), ("whole", "modular"), ("whole", "nothing"),
            ("fold", "two", "times", 3), ("fold", "two", "plus", 2), ("fold", "short", "times", 2),
            ("fold", "two", "five", 2), ("fold", "modular", "times", 3), ("fold", "bent", "times", 1),
            ("fold", "times", "two", 2), ("fold", "two", "nothing", 2), ("fold", "nothing", "times", 2),
            ("fold", "times", "times", 1), ("fold", "two", "two", 1),
            ("leads", "two", "times", "plus"), ("leads", "short", "times", "times"), ("leads", "two", "five", "five"),
            ("leads", "modular", "times", "times"), ("leads", "zero", "times", "five"), ("leads", "zero", "five", "times"),
            ("leads", "two", "two", "times"), ("leads", "times", "times", "times"), ("leads", "two", "times", "nothing"),
            ("leads", "nothing", "times", "times"), ("leads", "two", "nothing", "times"), ("leads", "two", "five", "times"),
            ("height", "five", 2), ("height", "five", 0), ("height", "times", 1), ("height", "four", 1),
            ("height", "two", 1), ("height", "nothing", 1), ("height", "high", SIXTY), ("height", "high", 1),
        ]
        desk = self.desk()
        for pledge in holding:
            twin = desk.twin()
            self.assertEqual(twin.demand(pledge), ((), ()))
            self.assertEqual((twin.pledges, pledge in twin), ((pledge,), True))
        for pledge in not_holding:
            self.pledge_refused(pledge, calling(desk, "demand"), pledge)

    def test_no_height(self):
        desk = Desk()
        desk.put("one", Law.additive(8, modulus=2))
        for number in (0, 1, 2, 3, -1):
            self.pledge_refused(("height", "one", number), calling(desk, "demand"), ("height", "one", number))

    def test_first_broken_one(self):
        desk = self.desk()
        pledges = [("fold", "two", "times", 2), ("leads", "two", "times", "times"), ("whole", "times")]
        for order in itertools.permutations(pledges):
            twin = desk.twin()
            for pledge in order:
                twin.demand(pledge)
            self.pledge_refused(order[0], calling(twin, "drop"), "times")
            first = [pledge for pledge in order if pledge[0] != "whole"][0]
            self.pledge_refused(first, calling(twin, "drop"), "two")
            self.pledge_refused(first, calling(twin, "turn"), "times", "bent")
            # With half of x ** 3 more the law is no longer whole, either.
            twin.drop("short")
            twin.load("odd", Row((0, 1, 0, Ratio(1, 2), 0)))
            self.pledge_refused(order[0], calling(twin, "turn"), "times", "odd")
            names = {name: name for name in twin.names} | {"times": "plus", "plus": "times"}
            self.pledge_refused(first, calling(twin, "rename"), names)

    def test_own_errors_first(self):
        desk = some_desk()
        self.unknown_refused("two", calling(desk, "drop"), "two")
        self.refused(errors.InvalidOperation, calling(desk, "rename"), {"one": "ONE"})
        self.pledge_refused(("whole", "one"), calling(desk, "rename"), {"one": "uno"})
        self.refused(errors.InvalidOperation, calling(desk, "demand"), ("whole", "one"))


class TestHistory(DeskChecks):
    def test_undo_and_redo(self):
        desk = full_desk()
        states = []
        while desk.changes:
            states.append((desk.names, desk.lines, desk.pledges))
            desk.undo()
        self.assertEqual((desk.names, desk.lines, desk.pledges, len(desk)), ((), (), (), 0))
        self.assertEqual(redo_count(desk), 13)
        for names, lines, pledges in reversed(states):
            desk.redo()
            self.assertEqual((desk.names, desk.lines, desk.pledges), (names, lines, pledges))
        self.assertEqual(desk.changes, 11)

    def test_many(self):
        desk = full_desk()
        news = ((), tuple(sorted(desk.lines)))
        before = kept(desk)
        self.assertEqual(desk.undo(many=0), ((), ()))
        self.assertEqual(desk.redo(many=0), ((), ()))
        self.assertEqual(kept(desk), before)
        self.assertEqual(desk.undo(many=11), (news[1], ()))
        self.assertEqual(desk.redo(many=11), news)
        self.assertEqual(kept(desk), before)
        self.assertEqual(desk.redo(many=2)[0], ("row bent: x + 2*x^2 + 3*x^3 + 4*x^4 to 4",))
        self.assertEqual(desk.undo(many=5), ((), ("row bent: x + 2*x^2 + 3*x^3 + 4*x^4 to 4",)))

    def test_errors(self):
        desk = full_desk()
        counts = bad(errors.InvalidCount, no_integers() + package_objects() + [-1, -2, -SIXTY])
        for name, most in (("undo", 11), ("redo", 2)):
            call = calling(desk, name)
            self.check_errors(lambda many: call_many(desk, name, many), (most,), [counts])
            for many in (most + 1, most + 2, SIXTY):
                error = self.refused(errors.NothingToUndo, call_many, desk, name, many)
                self.assertEqual(error.wanted, many)
            with self.assertRaises(TypeError):
                call(1)
        for name in ("undo", "redo"):
            error = self.refused(errors.NothingToUndo, getattr(Desk(), name))
            self.assertEqual(error.wanted, 1)

    def test_another_change(self):
        """What was taken back is lost with another change, not with one that is refused."""
        desk = full_desk()
        self.assertEqual(redo_count(desk), 2)
        self.refused(errors.InvalidOperation, desk.put, "times", TIMES)
        self.refused(errors.Refused, desk.demand, ("whole", "half"))
        self.assertEqual(redo_count(desk), 2)
        desk.fold("new", "times", 3)
        self.assertEqual((redo_count(desk), desk.changes), (0, 12))
        desk.undo()
        desk.rename({name: name for name in desk.names})
        self.assertEqual((redo_count(desk), desk.changes), (0, 12))

    def test_changes_that_change_nothing(self):
        desk = full_desk()
        many = desk.changes
        desk.rename({name: name for name in desk.names})
        desk.load("plain", Row.plain(4))
        desk.turn("plus", "plain")
        desk.waive(("whole", "times"))
        desk.demand(("whole", "times"))
        self.assertEqual(desk.changes, many + 5)

    def test_pledges_come_back(self):
        desk = some_desk()
        desk.waive(("whole", "one"))
        desk.load("half", Row((0, 1, 0, Ratio(1, 2))))
        desk.turn("one", "half")
        self.assertFalse(desk.law_named("one").is_whole)
        desk.undo(many=3)
        self.assertEqual(desk.pledges, (("whole", "one"),))
        desk.redo(many=3)
        self.assertEqual(desk.pledges, ())

    def test_against_a_model(self):
        """Changes at random, told by a list of states."""
        for seed in range(12):
            source = random.Random(f"desk {seed}")
            desk, states, spot = Desk(), [((), ())], 0
            for _ in range(60):
                before = desk.lines
                kind = source.randrange(4)
                if kind == 0:
                    many = source.randrange(4)
                    if many > spot:
                        self.refused(errors.NothingToUndo, lambda: desk.undo(many=many))
                        continue
                    news, spot = desk.undo(many=many), spot - many
                elif kind == 1:
                    many = source.randrange(3)
                    if many > len(states) - 1 - spot:
                        self.refused(errors.NothingToUndo, lambda: desk.redo(many=many))
                        continue
                    news, spot = desk.redo(many=many), spot + many
                else:
                    news = self.some_change(source, desk)
                    if news is None:
                        continue
                    spot += 1
                    states = states[:spot] + [(desk.lines, desk.pledges)]
                self.assertEqual((desk.lines, desk.pledges), states[spot])
                self.assertEqual((desk.changes, redo_count(desk)), (spot, len(states) - 1 - spot))
                self.assertEqual(news, TestChanges.news(self, before, desk.lines))

    def some_change(self, source, desk):
        a, b, c = [source.choice(["a", "b", "c", "d", "e"]) for _ in range(3)]
        calls = [
            lambda: desk.put(a, source.choice([TIMES, PLUS, FIVE])), lambda: desk.load(a, source.choice([BENT, HALF])),
            lambda: desk.fold(a, b, source.randrange(-3, 4)), lambda: desk.bind(a, b, c, c), lambda: desk.turn(a, b),
            lambda: desk.drop(a), lambda: desk.demand(("whole", a)), lambda: desk.waive(("whole", a)),
            lambda: desk.rename({name: source.choice("abcdefgh") for name in desk.names}),
        ]
        before = kept(desk)
        try:
            return source.choice(calls)()
        except (errors.SeriesError, errors.UnknownName, errors.TooMany, errors.Refused):
            self.assertEqual(kept(desk), before)
            return None


def call_many(desk, name, many):
    twin = desk.twin()
    before = kept(twin)
    try:
        return getattr(twin, name)(many=many)
    except Exception:
        if kept(twin) != before:
            raise AssertionError("the desk has changed")
        raise


class TestTrials(DeskChecks):
    def change_much(self, desk):
        desk.put("late", PLUS)
        desk.undo(many=3)
        desk.load("other", HALF)
        desk.waive(("whole", "times"))
        desk.undo()

    def test_trial(self):
        desk = full_desk()
        before = kept(desk)
        with desk.trial() as same:
            self.assertIs(same, desk)
            self.assertEqual(kept(desk), before)
            self.change_much(desk)
            self.assertNotEqual(kept(desk), before)
        self.assertEqual(kept(desk), before)
        self.assertEqual(desk, full_desk())

    def test_error_in_a_trial(self):
        desk = full_desk()
        before = kept(desk)
        for error in (ValueError("1"), errors.InvalidCount(3), KeyboardInterrupt()):
            with self.assertRaises(type(error)) as caught:
                with desk.trial():
                    self.change_much(desk)
                    raise error
            self.assertIs(caught.exception, error)
            self.assertEqual(kept(desk), before)
        with self.assertRaises(errors.Refused):
            with desk.trial() as same:
                same.undo()
                same.demand(("whole", "half"))
        self.assertEqual(kept(desk), before)

    def test_trial_in_a_trial(self):
        desk = full_desk()
        before = kept(desk)
        with desk.trial():
            desk.put("late", PLUS)
            middle = kept(desk)
            with desk.trial():
                desk.undo(many=6)
                desk.load("other", BENT)
            self.assertEqual(kept(desk), middle)
        self.assertEqual(kept(desk), before)

    def test_entered_later(self):
        """The block begins where it is entered."""
        desk = full_desk()
        trial = desk.trial()
        desk.put("late", PLUS)
        before = kept(desk)
        with trial:
            desk.undo(many=2)
        self.assertEqual(kept(desk), before)

    def test_during(self):
        desk = full_desk()
        before, seen = kept(desk), []

        def call(given):
            seen.append(given is desk)
            self.change_much(given)
            return given.lines

        lines = desk.during(call)
        self.assertEqual((seen, kept(desk)), ([True], before))
        self.assertIn("row other: x + 1/2*x^2 to 4", lines)
        self.assertIsNone(desk.during(lambda given: None))
        with self.assertRaises(errors.UnknownName):
            desk.during(lambda given: (given.undo(), given.drop("nothing")))
        self.assertEqual(kept(desk), before)
        self.assertEqual(desk.during(lambda given: given.undo()), full_desk().undo())

    def test_twins(self):
        desk = full_desk()
        twin, before = desk.twin(), kept(desk)
        self.assertIsNot(twin, desk)
        self.assertEqual(kept(twin), before)
        self.assertIs(twin == desk, True)
        self.change_much(twin)
        self.assertEqual(kept(desk), before)
        self.assertIs(twin == desk, False)
        twin = desk.twin()
        self.change_much(desk)
        self.assertEqual(kept(twin), before)
        twin.redo(many=2)
        twin.undo(many=13)
        self.assertEqual(twin, Desk())


class TestReading(DeskChecks):
    def test_lines(self):
        desk = full_desk()
        laws = [line_of(name, desk.law_named(name)) for name in desk.names if is_law_name(desk, name)]
        rows = [line_of(name, desk.row_named(name)) for name in desk.names if not is_law_name(desk, name)]
        self.assertEqual(desk.lines, tuple(laws + rows))
        self.assertEqual((list(desk), tuple(desk)), (laws + rows, desk.lines))
        self.assertEqual(list(Desk()), [])
        self.assertEqual(len(desk), 3)
        self.assertEqual(str(desk), "desk of 4 laws, 4 rows, 3 pledges")
        self.assertEqual(str(Desk()), "desk of 0 laws, 0 rows, 0 pledges")

    def test_contains(self):
        desk = full_desk()
        for value in desk.lines + desk.pledges:
            self.assertIs(value in desk, True)
        none = [("whole", "two"), ["whole", "times"], ("fold", "two", "times", True), ("fold", "two", "times", 3)]
        none += ["times", "law times", "row two: 2*x + x^2 to 3", ("height", "five", True), "whole", desk]
        for value in none + no_objects() + package_objects() + no_pledges():
            self.assertIs(value in desk, False)
        # True is not 1.
        self.assertIs(("height", "five", 1) in desk, True)

    def test_named(self):
        desk = full_desk()
        self.assertEqual((desk.law_named("times"), desk.row_named("bent")), (TIMES, BENT))
        for value in unknown("bent", "two"):
            self.unknown_refused(value, desk.law_named, value)
        for value in unknown("times", "five"):
            self.unknown_refused(value, desk.row_named, value)

    def test_equal(self):
        """Equal names, laws, rows and tuples of pledges, whatever changes led to them."""
        one, other = full_desk(), full_desk()
        self.assertIs(one == other, True)
        self.assertIs(one != other, False)
        other.undo(many=2)
        other.demand(("fold", "two", "times", 2))
        self.assertIs(one == other, False)
        other.demand(("height", "five", 1))
        self.assertIs(one == other, True)
        other.waive(("whole", "times"))
        other.demand(("whole", "times"))
        self.assertIs(one == other, False)
        names = {name: "halfhalf" if name == "half" else name for name in one.names}
        for change in (("drop", "half"), ("turn", "plus", "bent"), ("rename", names)):
            other = full_desk()
            getattr(other, change[0])(*change[1:])
            self.assertIs(one == other, False)
            self.assertIs(one != other, True)
        for value in no_objects() + others_than(Desk) + [one.lines, one.pledges, Desk()]:
            self.assertIs(one == value, False)
            self.assertIs(value != one, True)
        # A law and a row under one name are not the same.
        one, other = Desk(), Desk()
        one.put("a", TIMES)
        other.load("a", BENT)
        self.assertIs(one == other, False)

    def test_arguments_do_not_change(self):
        names = {"one": "b"}
        desk = Desk()
        desk.put("one", TIMES)
        desk.rename(names)
        names["one"] = "c"
        self.assertEqual((desk.names, names), (("b",), {"one": "c"}))

    def test_all_changes_are_listed(self):
        for name in NEWS:
            self.assertTrue(callable(getattr(Desk, name)))
        self.assertIs(Desk() == Double(2, {}), False)


if __name__ == "__main__":
    unittest.main()
