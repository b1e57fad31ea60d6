"""What is a reason, what is a counter-reason, and the heights and rows of reasons ([1], [2], [8] to [11])."""

import random
import unittest

from oracle import all_pairs
from papers import (
    FirstPapers, changed_paper, expected_counter, expected_reason, height_of, parts_in, pieces, rows_in,
)
from samples import NAMES, ROWS, STEADY_WORDS, USER, mixed_stores, random_stores, row, rows, sample_store, thing
from sharerules import checks
from sharerules.books import Book
from sharerules.checks import is_counter, is_reason, reason_height, reason_rows
from sharerules.grants import granted, height, may
from sharerules.reasons import answer_with
from sharerules.store import Store
from values import argument_names, deep_values, nested, odd_values

ANN = ("user", "ann")


def reason_of(text):
    """The part ("row", row) of a text."""
    return ("row", row(text))


def pair(text):
    first, relation = text.split(" ")
    return (thing(first), relation)


def state(store):
    return (store.version, store.rows, store.book.rules)


class Case(unittest.TestCase):
    def reason(self, store, question, value, expected, person=ANN):
        before = state(store)
        for given in (value, copied(value)):
            self.assertIs(is_reason(store, *pair(question), person, given), expected, value)
        if expected:
            self.assertIs(is_counter(store, *pair(question), person, value), False)
        self.assertEqual(state(store), before)

    def counter(self, store, question, value, expected, person=ANN):
        before = state(store)
        for given in (value, copied(value)):
            self.assertIs(is_counter(store, *pair(question), person, given), expected, value)
        if expected:
            self.assertIs(is_reason(store, *pair(question), person, value), False)
        self.assertEqual(state(store), before)


def copied(value):
    """An equal value made of other tuples."""
    return tuple([copied(item) for item in value]) if isinstance(value, tuple) else value


def counter(*refused, granted=()):
    """A counter-reason from the texts of pairs, and pairs of a text and a reason."""
    return (tuple(pair(text) for text in refused), tuple((pair(text), reason) for text, reason in granted))


class TestReasons(Case):
    def test_row(self):
        store = sample_store("doc:a owner user:ann", "doc:b owner user:ann", "doc:a owner user:bob", "doc:a banned user:ann")
        right = reason_of("doc:a owner user:ann")
        self.reason(store, "doc:a owner", right, True)
        self.reason(store, "doc:b owner", right, False)
        self.reason(store, "doc:a banned", right, False)
        self.reason(store, "doc:a owner", right, False, ("user", "bob"))
        self.reason(store, "doc:a owner", reason_of("doc:a owner user:bob"), False)
        self.reason(store, "doc:c owner", reason_of("doc:c owner user:ann"), False)
        for wrong in (right[:1], right + (right,), right + ((),), ("group", right[1]), ("rows", right[1]), list(right),
                      ("row", list(right[1])), ("row", right[1][:2]), ("row", (right[1],)), right[1], (right[1], "row"),
                      ("row", ["doc", "a"]), {"row": right[1]}, ("row", None), (), ("row", right), ("or", 0, right)):
            self.reason(store, "doc:a owner", wrong, False)

    def test_group(self):
        store = sample_store("group:a member group:b#member", "group:b member user:ann", "group:a member group:c#member",
                             "doc:a banned group:b#member")
        inner = reason_of("group:b member user:ann")
        step = row("group:a member group:b#member")
        self.reason(store, "group:b member", inner, True)
        self.reason(store, "group:a member", ("group", step, inner), True)
        self.reason(store, "doc:a banned", ("group", row("doc:a banned group:b#member"), inner), True)
        for wrong in (("group", row("group:a member group:c#member"), inner), ("group", step), ("group", step, inner, inner),
                      ("row", step), ("row", step, inner), ("via", step, inner), ("same", inner), inner,
                      ("group", row("doc:a banned group:b#member"), inner), ("group", step, ("group", step, inner)),
                      ("group", step, reason_of("group:a member user:ann")), ("group", inner, step),
                      ("group", row("group:b member user:ann"), inner), ("group", list(step), inner),
                      ("group", step, list(inner)), ("group", inner[1], inner)):
            self.reason(store, "group:a member", wrong, False)
        self.reason(store, "group:a member", ("group", step, inner), False, ("user", "bob"))
        # The row of this very object tells a person, and no group.
        for wrong in (("group", inner[1], inner), ("group", inner[1], ("group", inner[1], inner)), ("group", inner[1], ())):
            self.reason(store, "group:b member", wrong, False)

    def test_same_and_or(self):
        store = sample_store("doc:a owner user:ann", "doc:a editor user:ann", "doc:b owner user:ann")
        owner = reason_of("doc:a owner user:ann")
        self.reason(store, "doc:a editor", ("or", 1, ("same", owner)), True)
        self.reason(store, "doc:a editor", ("or", 0, reason_of("doc:a editor user:ann")), True)
        for wrong in (("or", 0, ("same", owner)), ("or", 1, owner), ("same", owner), ("or", 1, ("same",)),
                      ("or", 1, ("same", owner, owner)), ("or", 1, ("same", reason_of("doc:b owner user:ann"))),
                      ("or", 2, ("same", owner)), ("or", -1, ("same", owner)), ("or", True, ("same", owner)),
                      ("or", "1", ("same", owner)), ("or", None, ("same", owner)), ("or", (1,), ("same", owner)),
                      ("or", 1), ("or", ("same", owner)), ("or", 1, ("same", owner), ("same", owner)), ("or", 10 ** 30, owner),
                      ("and", 1, ("same", owner)), ("or", 1, ["same", owner]), ["or", 1, ("same", owner)],
                      ("or", 1, ("same", ("or", 1, ("same", owner)))), ("or", False, reason_of("doc:a editor user:ann"))):
            self.reason(store, "doc:a editor", wrong, False)

    def test_via(self):
        store = sample_store("doc:a parent folder:f", "folder:f viewer user:ann", "folder:f parent folder:f",
                             "doc:b parent folder:f", "doc:a parent doc:b")
        inner = ("or", 0, reason_of("folder:f viewer user:ann"))
        self.reason(store, "folder:f viewer", inner, True)
        around = ("or", 1, ("via", row("folder:f parent folder:f"), inner))
        self.reason(store, "folder:f viewer", around, True)
        self.reason(store, "folder:f viewer", ("or", 1, ("via", row("folder:f parent folder:f"), around)), True)
        for step, expected in (("doc:a parent folder:f", True), ("doc:b parent folder:f", False), ("doc:a parent doc:b", False),
                               ("doc:a parent folder:g", False), ("folder:f parent folder:f", False)):
            value = ("but", ("or", 2, ("via", row(step), inner)), counter("doc:a banned"))
            self.reason(store, "doc:a viewer", value, expected)
        step = row("doc:a parent folder:f")
        for wrong in (("via", step), ("via", inner, step), ("via", step, inner, inner), ("group", step, inner), ("row", step),
                      ("same", inner), ("via", list(step), inner), ("via", step, inner[2]), ("via", step, None)):
            self.reason(store, "doc:a viewer", ("but", ("or", 2, wrong), counter("doc:a banned")), False)

    def test_via_where_the_relation_is_a_link_or_unknown(self):
        book = Book({
            "a": {"up": ((("a",), ("b",), ("c",)), None), "r": ((("a",),), ("or", ROWS, ("via", "up", "r")))},
            "b": {"r": ((("a",),), None)}, "c": {},
        })
        store = Store(book, rows=rows("a:x up a:y", "a:x up b:y", "a:x up c:y", "a:y r a:p", "b:y r a:p"))
        inner = ("or", 0, reason_of("a:y r a:p"))
        for last, expected in (("a:y", True), ("b:y", False), ("c:y", False)):
            value = ("or", 1, ("via", row("a:x up " + last), inner))
            self.reason(store, "a:x r", value, expected, ("a", "p"))
            self.reason(store, "a:x r", value[:2] + (value[2][:2] + (reason_of("b:y r a:p"),),), False, ("a", "p"))

    def test_and(self):
        store = sample_store("doc:a both user:ann", "doc:a viewer user:ann", "doc:a editor user:ann")
        viewer = ("same", ("but", ("or", 0, reason_of("doc:a viewer user:ann")), counter("doc:a banned")))
        editor = ("same", ("or", 0, reason_of("doc:a editor user:ann")))
        both = reason_of("doc:a both user:ann")
        self.reason(store, "doc:a both", ("and", viewer, editor, both), True)
        for wrong in (("and", editor, viewer, both), ("and", viewer, editor), ("and", viewer, editor, both, both), ("and",),
                      ("or", viewer, editor, both), ("and", 0, viewer, editor, both), ("and", both, both, both),
                      ("and", viewer, editor, ()), ("and", viewer, None, both), ["and", viewer, editor, both],
                      ("and", (viewer, editor, both))):
            self.reason(store, "doc:a both", wrong, False)
        # The same question may have other reasons in other places.
        store.write(add=rows("doc:a owner user:ann"))
        other = ("same", ("but", ("or", 1, ("same", ("or", 1, ("same", reason_of("doc:a owner user:ann"))))), counter("doc:a banned")))
        self.reason(store, "doc:a both", ("and", other, editor, both), True)

    def test_but(self):
        store = sample_store("doc:a viewer user:ann", "doc:a banned group:g#member", "doc:b viewer user:ann")
        part = ("or", 0, reason_of("doc:a viewer user:ann"))
        right = counter("doc:a banned", "group:g member")
        self.reason(store, "doc:a viewer", ("but", part, right), True)
        for wrong in (("but", part), ("but", part, counter("doc:a banned")), ("but", part, right, right), ("but", right, part),
                      part, ("but", part, None), ("but", part, ()), ("but", part, part), ("but", part, list(right)),
                      ("but", part, counter("doc:b banned")), ("but", part, counter("group:g member")), ("and", part, right),
                      ("but", reason_of("doc:a viewer user:ann"), right)):
            self.reason(store, "doc:a viewer", wrong, False)
        store.write(add=rows("group:g member user:ann"))
        self.reason(store, "doc:a viewer", ("but", part, right), False)

    def test_reasons_and_counters_within_one_another(self):
        store = sample_store("doc:a stranger user:ann", "doc:a viewer user:ann", "doc:a banned group:g#member",
                             "group:g member user:ann")
        banned = ("group", row("doc:a banned group:g#member"), reason_of("group:g member user:ann"))
        refused = counter("doc:a viewer", granted=[("doc:a banned", banned)])
        stranger = ("but", reason_of("doc:a stranger user:ann"), refused)
        self.counter(store, "doc:a viewer", refused, True)
        self.reason(store, "doc:a stranger", stranger, True)
        self.assertEqual(reason_rows(stranger), rows("doc:a stranger user:ann"))
        self.assertEqual(reason_height(stranger), 1)
        wrong = ("group", row("doc:a banned group:g#member"), reason_of("group:g member user:bob"))
        for inner in (wrong, banned[:2], None, ("or", 0, banned), reason_of("doc:a banned user:ann")):
            refused = counter("doc:a viewer", granted=[("doc:a banned", inner)])
            self.counter(store, "doc:a viewer", refused, False)
            self.reason(store, "doc:a stranger", ("but", reason_of("doc:a stranger user:ann"), refused), False)


class TestCounters(Case):
    def test_rows(self):
        store = sample_store("group:a member group:b#member", "group:b member group:a#member", "group:a member user:bob",
                             "group:c member group:b#member")
        right = counter("group:a member", "group:b member")
        self.counter(store, "group:a member", right, True)
        self.counter(store, "group:b member", right, True)
        self.counter(store, "group:c member", right, False)
        self.counter(store, "group:c member", counter("group:c member", "group:b member", "group:a member"), True)
        self.counter(store, "group:a member", right, False, ("user", "bob"))
        self.counter(store, "group:d member", counter("group:d member"), True, ("user", "bob"))
        for wrong in (counter("group:a member"), counter("group:b member"), counter(), counter("group:a member", "group:c member"),
                      right[:1], right + ((),), (right[0],), list(right), (list(right[0]), ()), (right[0], []), right[0],
                      (right[0], None), (None, ()), ((), right[0]), (right[0] + right[0][:1], ()), (right[0][::-1], right[0]),
                      (right[0] + (None,), ()), (right[0] + ((("group", "a"),),), ()), (right[0] + (("group", "a", "member"),), ()),
                      (right[0] + ((["group", "z"], "member"),), ()), (right[0] + ((("group", "z"), "nothing"),), ()),
                      (right[0] + ((("user", "z"), "member"),), ()), (right[0] + ((("group", "Z"), "member"),), ()),
                      (right[0] + ((("doc", "z"), "parent"),), ()), (right[0] + ((("group", "z", "member"), "member"),), ()),
                      ({right[0][0]: True}, ()), (tuple(list(one) for one in right[0]), ()), (right[0], (right[0][0],))):
            self.counter(store, "group:a member", wrong, False)

    def test_further_pairs(self):
        store = sample_store("doc:a banned group:g#member", "doc:b owner user:ann", "doc:b editor group:g#member")
        right = counter("doc:a banned", "group:g member")
        owner = ("doc:b owner", reason_of("doc:b owner user:ann"))
        editor = ("doc:b editor", ("or", 1, ("same", owner[1])))
        for more in (["doc:z banned"], ["doc:b banned", "group:x member"], ["doc:a owner"], ["doc:a owner", "doc:a editor"]):
            for told in (["doc:a banned", "group:g member", *more], [*more, "group:g member", "doc:a banned"]):
                self.counter(store, "doc:a banned", counter(*told), True)
                self.counter(store, "doc:a banned", counter(*told, granted=[owner]), True)
        # A further pair must be refused, too, and one that is granted have a reason.
        for more in (["doc:b owner"], ["doc:b editor"], ["doc:a editor"], ["doc:z viewer"], ["doc:b banned", "doc:b banned"]):
            self.counter(store, "doc:a banned", counter("doc:a banned", "group:g member", *more), False)
        for granted in ([owner], [editor], [owner, editor], [editor, owner]):
            self.counter(store, "doc:a banned", counter("doc:a banned", "group:g member", granted=granted), True)
        for granted in ([owner, owner], [("doc:a owner", owner[1])], [("doc:b owner", editor[1])], [owner, ("doc:b editor", owner[1])],
                        [("doc:b editor", ("or", 0, owner[1]))], [("doc:b parent", owner[1])], [("user:b owner", owner[1])]):
            self.counter(store, "doc:a banned", counter("doc:a banned", "group:g member", granted=granted), False)
        for granted in (((pair(owner[0]), owner[1], owner[1]),), ((pair(owner[0]),),), (pair(owner[0]),), ([pair(owner[0]), owner[1]],),
                        [(pair(owner[0]), owner[1])], {pair(owner[0]): owner[1]}, ((owner[1], pair(owner[0])),), owner, None):
            self.counter(store, "doc:a banned", (right[0], granted), False)

    def test_same_or_and_via(self):
        store = sample_store("folder:a parent folder:b", "folder:b parent folder:a", "doc:a parent folder:a", "doc:a parent doc:b")
        self.counter(store, "folder:a viewer", counter("folder:a viewer", "folder:b viewer"), True)
        self.counter(store, "folder:a viewer", counter("folder:a viewer"), False)
        self.counter(store, "doc:b editor", counter("doc:b editor", "doc:b owner"), True)
        self.counter(store, "doc:b editor", counter("doc:b editor"), False)
        self.counter(store, "doc:b editor", counter("doc:b editor", "doc:a owner"), False)
        every = ["doc:a viewer", "doc:a editor", "doc:a owner", "folder:a viewer", "folder:b viewer", "doc:b viewer",
                 "doc:b editor", "doc:b owner"]
        self.counter(store, "doc:a viewer", counter(*every), True)
        for gone in range(len(every)):
            self.counter(store, "doc:a viewer", counter(*every[:gone], *every[gone + 1:]), False)

    def test_and(self):
        store = sample_store("doc:a viewer user:ann")
        # One refused rule is enough, whichever it is.
        self.counter(store, "doc:a both", counter("doc:a both"), True)
        self.counter(store, "doc:a both", counter("doc:a both", "doc:a editor", "doc:a owner"), True)
        store.write(add=rows("doc:a both user:ann"))
        self.counter(store, "doc:a both", counter("doc:a both"), False)
        self.counter(store, "doc:a both", counter("doc:a both", "doc:a editor", "doc:a owner"), True)
        self.counter(store, "doc:a both", counter("doc:a both", "doc:a viewer"), False)

    def test_but(self):
        store = sample_store("doc:a viewer user:ann", "doc:a banned user:ann", "doc:a stranger user:bob")
        banned = ("doc:a banned", reason_of("doc:a banned user:ann"))
        self.counter(store, "doc:a viewer", counter("doc:a viewer", granted=[banned]), True)
        self.counter(store, "doc:a viewer", counter("doc:a viewer"), False)
        self.counter(store, "doc:a viewer", counter("doc:a viewer", "doc:a editor", "doc:a owner"), False)
        self.counter(store, "doc:a viewer", counter("doc:a viewer", granted=[("doc:b banned", banned[1])]), False)
        # The rule may be refused and the other relation granted, both at once.
        self.counter(store, "doc:a stranger", counter("doc:a stranger"), True)
        self.counter(store, "doc:a stranger", counter("doc:a stranger", "doc:a viewer", granted=[banned]), True)
        self.counter(store, "doc:a stranger", counter("doc:a stranger", "doc:a viewer"), False)

    def test_via_where_the_relation_is_a_link_or_unknown(self):
        book = Book({
            "a": {"up": ((("a",), ("b",), ("c",)), None), "r": ((("a",),), ("or", ROWS, ("via", "up", "r")))},
            "b": {"r": ((("a",),), None)}, "c": {},
        })
        store = Store(book, rows=rows("a:x up a:y", "a:x up b:y", "a:x up c:y", "b:y r a:p"))
        self.counter(store, "a:x r", counter("a:x r", "a:y r"), True, ("a", "p"))
        self.counter(store, "a:x r", counter("a:x r"), False, ("a", "p"))
        self.counter(store, "a:x r", counter("a:x r", "a:y r", "b:y r"), False, ("a", "p"))


class TestAnyValue(Case):
    STORE = sample_store(
        "doc:a owner user:ann", "doc:a banned group:g#member", "doc:a parent folder:f", "folder:f viewer user:ann")
    QUESTIONS = ["doc:a owner", "doc:a editor", "doc:a viewer", "doc:a banned", "doc:a both", "doc:a stranger",
                 "folder:f viewer", "group:g member"]

    def test_odd_and_deep_values(self):
        for value in [*odd_values(), *deep_values(), self.STORE, self.STORE.book, iter([])]:
            for around in (value, (value,), (value, value), (value, ()), ((), value), ("row", value), ("same", value),
                           ("or", 0, value), ("or", value, ()), ("but", value, value), ("and", value, value, value),
                           ("via", value, value), ("group", value, value), (value, value, value), ((value,), ()),
                           (((value, "owner"),), ()), (((("doc", "a"), value),), ()), (((("doc", "a"), "owner"),), (value,)),
                           (((("doc", "a"), "banned"),), ((value, value),)), ("row", (value, "owner", ANN)),
                           ("row", (("doc", "a"), value, ANN)), ("row", (("doc", "a"), "owner", value))):
                for question in self.QUESTIONS:
                    self.assertIs(is_reason(self.STORE, *pair(question), ANN, around), False)
                    self.assertIs(is_counter(self.STORE, *pair(question), ANN, around), False)

    def test_values_that_look_right_for_long(self):
        step = row("folder:f parent folder:f")
        store = sample_store("folder:f parent folder:f", "folder:f viewer user:ann", "group:g member group:g#member")
        for depth in (1, 10, 100, 150, 1000):
            good = nested(lambda value: ("or", 1, ("via", step, value)), depth, ("or", 0, reason_of("folder:f viewer user:ann")))
            bad = nested(lambda value: ("or", 1, ("via", step, value)), depth, ("or", 0, reason_of("folder:f viewer user:bob")))
            open_end = nested(lambda value: ("or", 1, ("via", step, value)), depth)
            self.assertIs(is_reason(store, ("folder", "f"), "viewer", ANN, good), True)
            self.assertEqual([reason_height(good), len(reason_rows(good))], [depth + 1, 2])
            self.assertIs(is_reason(store, ("folder", "f"), "viewer", ANN, bad), False)
            self.assertIs(is_reason(store, ("folder", "f"), "viewer", ANN, open_end), False)
        twice = nested(lambda value: ("and", ("same", value), ("same", value)), 150)
        book = Book({"k": {"r": ((), ("and", ("same", "r"), ("same", "r")))}})
        self.assertIs(is_reason(Store(book), ("k", "a"), "r", ANN, twice), False)

    def test_what_is_no_question(self):
        right = reason_of("doc:a owner user:ann")
        none = counter("doc:z owner")
        for value in [*odd_values(), *deep_values()]:
            for paper in (right, none):
                for told in ((value, "owner", ANN), (("doc", "a"), value, ANN), (("doc", value), "owner", ANN),
                             ((value, "a"), "owner", ANN), (value, value, value), (("doc", "a"), "parent", ANN)):
                    self.assertIs(is_reason(self.STORE, *told, paper), False)
                    self.assertIs(is_counter(self.STORE, *told, paper), False)


class TestHeightsAndRows(Case):
    def test_heights(self):
        leaf, step = reason_of("group:a member user:ann"), row("group:b member group:a#member")
        for value, expected in (
            (leaf, 1), (("group", step, leaf), 2), (("via", step, leaf), 2), (("same", leaf), 2), (("or", 3, leaf), 1),
            (("and", leaf, leaf), 1), (("and", ("same", leaf), leaf), 2), (("and", leaf, ("same", ("same", leaf))), 3),
            (("but", leaf, ((), ())), 1), (("but", ("same", leaf), (((step[0], "member"),), ((("a",), ("same", ("same", leaf))),))), 2),
            (("same", ("or", 0, ("and", ("or", 1, ("group", step, leaf)), leaf, ("via", step, ("same", leaf))))), 4),
        ):
            self.assertEqual(reason_height(value), expected)
            self.assertEqual(height_of(value), expected)

    def test_rows(self):
        one, two, three, four = rows("group:a member user:ann", "group:b member group:a#member", "doc:b parent doc:a", "doc:a owner user:ann")
        told = ((), ((("x",), ("row", four)),))
        for value, expected in (
            (("row", one), [one]), (("group", two, ("row", one)), [one, two]), (("same", ("row", four)), [four]),
            (("and", ("row", four), ("row", one), ("row", four)), [four, one]), (("or", 0, ("row", two)), [two]),
            (("via", three, ("via", three, ("row", one))), [three, one]), (("but", ("row", one), told), [one]),
            (("and", ("but", ("via", three, ("but", ("row", two), told)), told), ("row", one)), [three, one, two]),
        ):
            self.assertEqual(reason_rows(value), expected)
            self.assertIs(type(reason_rows(value)), list)
            reason_rows(value).clear()
            self.assertEqual(reason_rows(value), expected)


class TestChains(Case):
    """Chains of 99 steps, open or closed to a ring: papers that are deeper than calls may be."""

    NAMES = [first + last for first in NAMES[:10] for last in NAMES[:10]]

    def chain(self, kind, many, step, closed):
        """The rows of a chain of so many objects, and the one that closes it."""
        names = self.NAMES[:many]
        texts = [step(names[at], names[at + 1]) for at in range(many - 1)]
        return texts + ([step(names[-1], names[0])] if closed else [])

    def check(self, kind, relation, word, step, wrap, many, closed):
        texts = self.chain(kind, many, step, closed)
        end = f"{kind}:{self.NAMES[many - 1]} {relation} user:ann"
        store = sample_store(end, *texts) if len(texts) < 100 else sample_store(*texts)
        first = (kind, self.NAMES[0])
        value = wrap(None, reason_of(end))
        for at in range(many - 2, -1, -1):
            value = wrap(word, (word, row(texts[at]), value))
        self.assertIs(is_reason(store, first, relation, ANN, value), True)
        self.assertEqual(reason_height(value), many)
        self.assertEqual(height(store, first, relation, ANN), many)
        self.assertEqual(reason_rows(value), sorted(rows(end, *texts[:many - 1])))
        self.assertIs(may(store, first, relation, ANN), True)
        self.assertEqual(granted(store, ANN), [((kind, name), relation) for name in self.NAMES[:many]])
        # No shorter one: without one of the steps it is none.
        for gone in {0, (many - 2) // 2, many - 2}:
            shorter = wrap(None, reason_of(end))
            for at in range(many - 2, -1, -1):
                shorter = shorter if at == gone else wrap(word, (word, row(texts[at]), shorter))
            self.assertIs(is_reason(store, first, relation, ANN, shorter), False)
        for other in ("bob", "z"):
            self.assertIs(is_reason(store, first, relation, ("user", other), value), False)

    def check_counter(self, kind, relation, step, many, closed):
        store = sample_store(*self.chain(kind, many, step, closed))
        pairs = tuple(((kind, name), relation) for name in self.NAMES[:many])
        self.assertIs(may(store, *pairs[0], ANN), False)
        self.assertIs(height(store, *pairs[0], ANN), None)
        self.assertEqual(granted(store, ANN), [])
        for given in (pairs, pairs[::-1]):
            self.assertIs(is_counter(store, *pairs[0], ANN, (given, ())), True)
        for gone in {0, many // 2, many - 1}:
            self.assertIs(is_counter(store, *pairs[0], ANN, (pairs[:gone] + pairs[gone + 1:], ())), False)

    def test_links(self):
        for many, closed in ((2, False), (2, True), (30, True), (50, False), (99, True), (100, False)):
            self.check("folder", "viewer", "via", "folder:{} parent folder:{}".format,
                       lambda word, part: ("or", 0 if word is None else 1, part), many, closed)

    def test_groups(self):
        for many, closed in ((2, False), (2, True), (30, True), (50, False), (99, True), (100, False)):
            self.check("group", "member", "group", "group:{} member group:{}#member".format, lambda word, part: part, many, closed)

    def test_counters(self):
        for many, closed in ((2, False), (2, True), (50, False), (100, True), (100, False)):
            self.check_counter("folder", "viewer", "folder:{} parent folder:{}".format, many, closed)
            self.check_counter("group", "member", "group:{} member group:{}#member".format, many, closed)

    def test_reasons_that_are_told(self):
        for kind, relation, step in (("folder", "viewer", "folder:{} parent folder:{}".format),
                                     ("group", "member", "group:{} member group:{}#member".format)):
            store = sample_store(*self.chain(kind, 40, step, True), f"{kind}:{self.NAMES[39]} {relation} user:ann")
            first = (kind, self.NAMES[0])
            answer, paper = answer_with(store, first, relation, ANN)
            self.assertIs(answer, True)
            self.assertEqual([reason_height(paper), len(reason_rows(paper))], [40, 40])
            answer, paper = answer_with(store, first, relation, ("user", "bob"))
            self.assertIs(answer, False)
            self.assertEqual(paper, (tuple(((kind, name), relation) for name in self.NAMES[:40]), ()))


class TestRandomValues(Case):
    def check(self, stores):
        dice = random.Random(30)
        seen = {}
        for store in stores:
            before = state(store)
            papers, pool = self.papers_and_pieces(store)
            for question, person, paper in papers:
                for many in (0, 0, 1, 1, 1, 2):
                    value = paper if many else dice.choice(pool)
                    for _ in range(many):
                        value = changed_paper(dice, value, pool)
                    told = (is_reason(store, *question, person, value), is_counter(store, *question, person, value))
                    expected = (expected_reason(store, *question, person, value), expected_counter(store, *question, person, value))
                    self.assertEqual(told, expected, (store.book.rules, store.rows, question, person, value))
                    seen[told] = seen.get(told, 0) + 1
                    answer = FirstPapers(store, person).answer(*question)[0] if True in told else None
                    self.assertIn(told, [(False, False), (answer is True, answer is False)])
            self.assertEqual(state(store), before)
        for told in ((True, False), (False, True), (False, False)):
            self.assertGreater(seen[told], 5)

    def papers_and_pieces(self, store):
        papers, pool = [], [(), ("row",), 0]
        for person in sorted({one[2][:2] for one in store.rows} | {("user", "no")}):
            for question in all_pairs(store):
                paper = answer_with(store, *question, person)[1]
                if parts_in(paper) <= 300:
                    papers.append((question, person, paper))
                    pool.extend(pieces(paper))
        random.Random(len(papers)).shuffle(papers)
        return papers[:40], pool

    def test_books_of_all_sorts(self):
        self.check(random_stores(31, 50))

    def test_books_without_but(self):
        self.check(random_stores(32, 25, words=STEADY_WORDS, many=18))

    def test_deep_rules_and_few_objects(self):
        self.check(random_stores(33, 25, depth=5, names=("x", "y"), many=25))

    def test_many_levels(self):
        self.check(mixed_stores(35, 40))

    def test_heights_and_rows_of_reasons(self):
        for store in random_stores(34, 60, many=16):
            for person in sorted({one[2][:2] for one in store.rows}):
                for question in all_pairs(store):
                    answer, paper = answer_with(store, *question, person)
                    if answer:
                        self.assertEqual(reason_height(paper), height_of(paper))
                        self.assertEqual(reason_rows(paper), sorted(rows_in(paper)))


class TestConventions(Case):
    def test_arguments_by_name(self):
        for function in (is_reason, is_counter):
            self.assertEqual(argument_names(function), ["store", "thing", "relation", "person", "value"])
        for function in (reason_height, reason_rows):
            self.assertEqual(argument_names(function), ["value"])
        for function in (is_reason, is_counter, reason_height, reason_rows):
            self.assertEqual(function.__module__, checks.__name__)
        store = sample_store("doc:a owner user:ann")
        part = reason_of("doc:a owner user:ann")
        self.assertIs(is_reason(value=part, person=ANN, relation="owner", thing=("doc", "a"), store=store), True)
        self.assertIs(is_counter(value=counter("doc:b owner"), person=ANN, relation="owner", thing=("doc", "b"), store=store), True)
        self.assertEqual([reason_height(value=part), reason_rows(value=part)], [1, [part[1]]])

    def test_example(self):
        book = Book({"user": {}, "doc": {
            "parent": ((("doc",),), None), "viewer": (USER, ("or", ROWS, ("via", "parent", "viewer")))}})
        store = Store(book, rows=rows("doc:a parent doc:b", "doc:b parent doc:a"))
        pairs = ((("doc", "a"), "viewer"), (("doc", "b"), "viewer"))
        self.assertIs(is_counter(store, ("doc", "a"), "viewer", ANN, (pairs, ())), True)
        self.assertIs(is_counter(store, ("doc", "a"), "viewer", ANN, (pairs[:1], ())), False)


if __name__ == "__main__":
    unittest.main()
