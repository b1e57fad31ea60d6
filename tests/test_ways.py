"""Plain, single and steady books, cuts, separate reasons, grounds and barriers ([2], [8], [9], [15])."""

import itertools
import random
import unittest

from oracle import all_pairs, expected_stands
from papers import changed_paper, expected_reason, pieces, rows_in
from samples import (
    NAMES, ROWS, STEADY_WORDS, USER, doubling_store, mixed_stores, nested_rule, random_book, random_stores, row, rows,
    sample_store, shuffled, single_stores, thing,
)
from sharerules import ways
from sharerules.books import Book
from sharerules.errors import BadQuestion, NotPlain, NotSingle, NotSteady
from sharerules.grants import may
from sharerules.reasons import first_reason
from sharerules.store import Store
from sharerules.ways import (
    are_separate, barrier, ground, is_cut, is_plain, is_single, is_steady, least_cut, separate_reasons,
)
from values import argument_names, deep_values, odd_values

ANN = ("user", "ann")
PLAIN = {
    "user": {},
    "group": {"member": ((("group", "member"), ("user",)), ROWS)},
    "doc": {
        "parent": ((("doc",),), None),
        "owner": ((("group", "member"), ("user",)), ROWS),
        "viewer": ((("group", "member"), ("user",)), ("or", ROWS, ("or", ("same", "owner"), ("via", "parent", "viewer")))),
    },
}


def plain_store(*texts):
    return Store(Book(PLAIN), rows=rows(*texts))


def question(text, person=ANN):
    first, relation = text.split(" ")
    return (thing(first), relation, person)


def state(store):
    return [store.version, store.rows, [store.rows_at(at) for at in range(store.version + 1)], store.book.rules]


def persons_in(store):
    return sorted({one[2] for one in store.rows if len(one[2]) == 2})


def holds(book, given, asked):
    """The answer to a question by some rows alone."""
    return asked[:2] in expected_stands(Store(book, rows=given), asked[2], [asked[0]])


def words_in(rule):
    return [] if rule is None else [rule[0], *[word for part in rule[1:] if type(part) is tuple for word in words_in(part)]]


def links_in(rule):
    if rule is None or rule[0] == "via":
        return [] if rule is None else [rule[1]]
    return [link for part in rule[1:] if type(part) is tuple for link in links_in(part)]


def expected_places(book, words):
    """The places whose rule has one of the words."""
    return [(kind, name) for kind, table in sorted(book.rules.items()) for name, (_, rule) in sorted(table.items())
            if set(words) & set(words_in(rule))]


def expected_twice(book):
    """The pairs whose rows are used more than once."""
    found = []
    for kind, table in sorted(book.rules.items()):
        links = [link for _, rule in table.values() for link in links_in(rule)]
        for name, (_, rule) in sorted(table.items()):
            if (links.count(name) if rule is None else words_in(rule).count("rows")) > 1:
                found.append((kind, name))
    return found


class TestBooks(unittest.TestCase):
    def told(self, rules, plain, steady, single):
        book = Book(rules)
        found = [is_plain(book), is_steady(book), is_single(book)]
        self.assertEqual(found, [plain, steady, single])
        self.assertTrue(all(type(one) is bool for one in found))
        self.assertEqual(book.rules, rules)

    def test_words(self):
        k, l = ((("k",),), ROWS), ((("k",),), None)

        def rules(rule, allowed=()):
            return {"k": {"a": k, "b": k, "l": l, "r": (allowed, rule)}}

        self.told({"user": {}}, True, True, True)
        self.told({"k": {"l": l}}, True, True, True)
        self.told(rules(("same", "a")), True, True, True)
        self.told(rules(("or", ("same", "a"), ("via", "l", "b"))), True, True, True)
        self.told(rules(("and", ("same", "a"), ("via", "l", "b"))), False, True, True)
        self.told(rules(("but", ("same", "a"), "b")), False, False, True)
        self.told(rules(("or", ("same", "a"), ("or", ("same", "b"), ("but", ("same", "a"), "b")))), False, False, True)
        self.told(rules(("or", ("same", "a"), ("or", ("same", "b"), ("and", ("same", "a"), ("same", "b"))))), False, True, True)
        self.told(rules(("but", ("and", ("same", "a"), ("same", "a")), "b")), False, False, True)

    def test_used_twice(self):
        k, l = ((("k",),), ROWS), ((("k",),), None)

        def rules(rule, other=ROWS, allowed=(("k",),)):
            return {"k": {"a": k, "b": ((("k",),) if other == ROWS else (), other), "l": l, "m": l, "r": (allowed, rule)}}

        self.told(rules(ROWS), True, True, True)
        self.told(rules(("or", ROWS, ROWS)), True, True, False)
        self.told(rules(("or", ROWS, ("or", ("same", "a"), ROWS))), True, True, False)
        self.told(rules(("and", ROWS, ROWS)), False, True, False)
        self.told(rules(("but", ("or", ROWS, ROWS), "a")), False, False, False)
        self.told(rules(("or", ("via", "l", "a"), ("via", "m", "a")), allowed=()), True, True, True)
        self.told(rules(("or", ("via", "l", "a"), ("via", "l", "a")), allowed=()), True, True, False)
        self.told(rules(("or", ("via", "l", "a"), ("via", "l", "b")), allowed=()), True, True, False)
        # By two rules of the same kind, but not by those of two kinds.
        self.told(rules(("via", "l", "a"), ("via", "l", "r"), ()), True, True, False)
        self.told(rules(("via", "l", "a"), ("via", "m", "r"), ()), True, True, True)
        self.told({kind: {"r": ((("k",),), ROWS), "l": l, "s": ((), ("via", "l", "r"))} for kind in "jk"}, True, True, True)

    def test_random_books(self):
        dice = random.Random(101)
        seen = set()
        for words in (("rows", "same", "via", "or", "or"), STEADY_WORDS, ("rows", "same", "via", "or", "and", "but")):
            for _ in range(150):
                book = random_book(dice, words=words, depth=dice.randint(1, 5))
                found = (is_plain(book), is_steady(book), is_single(book))
                self.assertEqual(found, (
                    not expected_places(book, ["and", "but"]), not expected_places(book, ["but"]), not expected_twice(book)))
                seen.add(found)
        self.assertEqual(len(seen), 6)

    def test_deep_rules(self):
        for wrap, plain, steady in ((lambda rule: ("or", rule, ("same", "a")), True, True),
                                    (lambda rule: ("or", ("same", "a"), rule), True, True)):
            rule = nested_rule(5, wrap)
            self.told({"k": {"a": ((("k",),), ROWS), "r": ((("k",),), rule)}}, plain, steady, True)


class TestCuts(unittest.TestCase):
    def told(self, store, text, many, person=ANN):
        asked, before = question(text, person), state(store)
        cut, reasons = least_cut(store, *asked), separate_reasons(store, *asked)
        self.assertEqual([len(cut), len(reasons)], [many, many])
        self.assertEqual([type(cut), type(reasons)], [list, list])
        self.check(store, asked, cut, reasons)
        self.assertEqual(state(store), before)
        return cut, reasons

    def check(self, store, asked, cut, reasons):
        self.assertEqual(cut, sorted(set(cut)))
        self.assertTrue(set(cut) <= set(store.rows))
        self.assertFalse(holds(store.book, [one for one in store.rows if one not in cut], asked))
        used = []
        for reason in reasons:
            self.assertIs(expected_reason(store, *asked, reason), True)
            used.extend(rows_in(reason))
        self.assertEqual(len(used), len(set(used)))
        self.assertIs(is_cut(store, *asked, cut), True)
        self.assertIs(are_separate(store, *asked, reasons), True)

    def test_no(self):
        store = plain_store("doc:a parent doc:b", "doc:b parent doc:a", "doc:a owner user:bob")
        for text in ("doc:a viewer", "doc:z viewer", "doc:a owner", "group:g member"):
            self.assertEqual(self.told(store, text, 0), ([], []))

    def test_one_row(self):
        store = plain_store("doc:a parent doc:b", "doc:b owner group:g#member", "group:g member user:ann", "group:g member group:h#member")
        cut, reasons = self.told(store, "doc:a viewer", 1)
        self.assertIn(cut[0], store.rows)
        inner = ("same", ("group", row("doc:b owner group:g#member"), ("row", row("group:g member user:ann"))))
        via = ("via", row("doc:a parent doc:b"), ("or", 1, ("or", 0, inner)))
        self.assertEqual(reasons, [("or", 1, ("or", 1, via))])
        self.assertEqual(self.told(store, "group:g member", 1), (
            [row("group:g member user:ann")], [("row", row("group:g member user:ann"))]))

    def test_many_rows(self):
        texts = [f"doc:a parent doc:{name}" for name in "bcde"] + [f"doc:{name} viewer user:ann" for name in "bcd"]
        store = plain_store(*texts)
        self.told(store, "doc:a viewer", 3)
        store.write(add=rows("doc:e owner user:ann"))
        self.told(store, "doc:a viewer", 4)
        store.write(add=rows("doc:a viewer user:ann", "doc:a owner user:ann"))
        self.told(store, "doc:a viewer", 6)
        store.write(add=rows("doc:x parent doc:a", "doc:x parent doc:b"))
        self.assertEqual(self.told(store, "doc:x viewer", 2)[0], rows("doc:x parent doc:a", "doc:x parent doc:b"))

    def test_ways_that_have_to_be_changed(self):
        # The shortest way takes a step of each of the two others.
        store = plain_store("doc:s parent doc:a", "doc:s parent doc:b", "doc:a parent doc:x", "doc:b parent doc:y",
                            "doc:a parent doc:y", "doc:x parent doc:u", "doc:u parent doc:v", "doc:v viewer user:ann",
                            "doc:y viewer user:ann", "doc:b parent doc:w", "doc:w parent doc:z")
        self.told(store, "doc:s viewer", 2)

    def test_a_step_that_was_taken_back_can_be_taken_again(self):
        # The first way takes the step from f to r, the second one takes it back.
        steps = "a-f a-x x-r f-r f-c c-g a-m m-n n-o o-q q-i i-g".split()
        store = plain_store(*["doc:{} parent doc:{}".format(*step.split("-")) for step in steps],
                            "doc:g viewer user:ann", "doc:r viewer user:ann")
        self.assertEqual(self.told(store, "doc:a viewer", 2)[0], rows("doc:g viewer user:ann", "doc:r viewer user:ann"))

    def test_steps_without_a_row_are_taken_many_times(self):
        store = plain_store(*[f"group:{name} member user:ann" for name in "abc"], *[f"doc:x owner group:{name}#member" for name in "abc"])
        cut, reasons = self.told(store, "doc:x viewer", 3)
        self.assertTrue(all(reason[:2] == ("or", 1) for reason in reasons))

    def test_rings(self):
        store = plain_store("doc:a parent doc:b", "doc:b parent doc:c", "doc:c parent doc:a", "doc:c parent doc:b", "doc:a parent doc:a",
                            "doc:b viewer group:g#member", "doc:c viewer group:h#member", "group:g member group:h#member",
                            "group:h member group:g#member", "group:h member user:ann", "group:g member user:ann", "doc:a parent doc:c")
        self.told(store, "doc:a viewer", 2)
        self.told(store, "doc:b viewer", 2)

    def test_chains_of_the_greatest_length(self):
        names = [first + last for first in NAMES[:10] for last in NAMES[:10]]
        texts = [f"doc:{names[at]} parent doc:{names[at + 1]}" for at in range(99)]
        store = plain_store(*texts, f"doc:{names[99]} viewer user:ann")
        cut, reasons = least_cut(store, *question("doc:aa viewer")), separate_reasons(store, *question("doc:aa viewer"))
        self.assertEqual([len(cut), len(reasons)], [1, 1])
        self.assertIs(is_cut(store, *question("doc:aa viewer"), cut), True)
        self.assertIs(are_separate(store, *question("doc:aa viewer"), reasons), True)
        many = plain_store(*[f"doc:a parent doc:{name}" for name in names[:50]], *[f"doc:{name} viewer user:ann" for name in names[:50]])
        self.assertEqual(len(least_cut(many, *question("doc:a viewer"))), 50)
        self.assertIs(are_separate(many, *question("doc:a viewer"), separate_reasons(many, *question("doc:a viewer"))), True)

    def test_least_of_all_cuts(self):
        for store in single_stores(102, 25, many=6):
            for asked in [(*pair, persons_in(store)[0]) for pair in all_pairs(store)][:6] if persons_in(store) else []:
                many = len(least_cut(store, *asked))
                for size in range(many):
                    for gone in itertools.combinations(store.rows, size):
                        self.assertIs(is_cut(store, *asked, list(gone)), False)

    def test_random_stores(self):
        sizes = {}
        for store in single_stores(103, 120):
            self.assertIs(is_plain(store.book) and is_single(store.book), True)
            person = (store.book.kinds[0], "p")
            before = state(store)
            for asked in [(*pair, person) for pair in all_pairs(store)]:
                cut, reasons = least_cut(store, *asked), separate_reasons(store, *asked)
                self.assertEqual(len(cut), len(reasons))
                self.assertIs(len(cut) > 0, may(store, *asked))
                self.check(store, asked, cut, reasons)
                sizes[len(cut)] = sizes.get(len(cut), 0) + 1
            self.assertEqual(state(store), before)
        self.assertTrue(all(sizes.get(size, 0) > 10 for size in range(4)), sizes)


class TestIsCut(unittest.TestCase):
    def test_lists(self):
        store = sample_store("doc:a owner user:ann", "doc:a parent folder:f", "folder:f viewer user:ann", "doc:b owner user:ann")
        one, two, three, four = rows("doc:a owner user:ann", "doc:a parent folder:f", "folder:f viewer user:ann", "doc:b owner user:ann")
        for value, expected in (
            ([one, two], True), ([two, one], True), ([one, three], True), ([one, two, three], True), ([one, two, four], True),
            ([one, two, three, four], True), ([one], False), ([two, three], False), ([], False), ((one, two), False),
            ([one, two, two], False), ([one, two, one], False), ([one, two, row("doc:c owner user:ann")], False), ([one, list(two)], False),
            ([one, two, None], False), ({one: True, two: True}, False), ([[one, two]], False), (one, False), ([(one, two)], False),
        ):
            self.assertIs(is_cut(store, *question("doc:a viewer"), value), expected)
        # Where the answer is no, it is no without any rows, too.
        for value, expected in (([], True), ([one], True), ([one, four], True), ([one, one], False), ((), False)):
            self.assertIs(is_cut(store, *question("doc:c viewer"), value), expected)

    def test_but(self):
        store = sample_store("doc:a owner user:ann", "doc:a banned user:ann")
        owner, banned = row("doc:a owner user:ann"), row("doc:a banned user:ann")
        asked = question("doc:a viewer")
        self.assertEqual([is_cut(store, *asked, value) for value in ([], [banned], [owner], [owner, banned])], [True, False, True, True])

    def test_random_stores(self):
        dice = random.Random(104)
        seen = {True: 0, False: 0}
        for store in [*random_stores(105, 30), *mixed_stores(106, 20)]:
            before = state(store)
            for _ in range(8):
                if not persons_in(store):
                    continue
                asked = (*dice.choice(all_pairs(store)), dice.choice(persons_in(store)))
                value = dice.sample(store.rows, dice.randint(0, len(store)))
                expected = not holds(store.book, [one for one in store.rows if one not in value], asked)
                self.assertIs(is_cut(store, *asked, value), expected)
                seen[expected] += 1
                self.assertIs(is_cut(store, *asked, value + value[:1]), expected and not value)
            self.assertEqual(state(store), before)
        self.assertTrue(min(seen.values()) > 20, seen)


class TestAreSeparate(unittest.TestCase):
    def test_lists(self):
        store = sample_store("doc:a owner user:ann", "doc:a parent folder:f", "folder:f viewer user:ann", "doc:a viewer user:ann",
                             "folder:f viewer group:g#member", "group:g member user:ann", "doc:a editor user:ann")
        none = ((question("doc:a banned")[:2],), ())
        folder = ("or", 0, ("row", row("folder:f viewer user:ann")))
        other = ("or", 0, ("group", row("folder:f viewer group:g#member"), ("row", row("group:g member user:ann"))))
        one = ("but", ("or", 0, ("row", row("doc:a viewer user:ann"))), none)
        two = ("but", ("or", 1, ("same", ("or", 1, ("same", ("row", row("doc:a owner user:ann")))))), none)
        three = ("but", ("or", 2, ("via", row("doc:a parent folder:f"), folder)), none)
        four = ("but", ("or", 2, ("via", row("doc:a parent folder:f"), other)), none)
        for value, expected in (
            ([], True), ([one], True), ([one, two, three], True), ([three, one], True), ([two, four], True), ([three, four], False),
            ([one, one], False), ([one, two, one], False), ([one, None], False), ((one, two), False), ([one, [two]], False),
            (one, False), ([one[1]], False), ([none], False), ({}, False), ([list(one)], False), ([()], False),
        ):
            self.assertIs(are_separate(store, *question("doc:a viewer"), value), expected)
            given = [item for item in value] if isinstance(value, list) else []
            are_separate(store, *question("doc:a viewer"), given)
            self.assertEqual(given, list(value) if isinstance(value, list) else [])

    def test_rows_twice_in_one_reason_and_rows_of_counters(self):
        store = sample_store("doc:a stranger user:ann", "doc:a banned user:ann", "doc:b stranger user:ann", "doc:a viewer user:ann")
        banned = ("row", row("doc:a banned user:ann"))
        told = ((question("doc:a viewer")[:2],), ((question("doc:a banned")[:2], banned),))
        stranger = ("but", ("row", row("doc:a stranger user:ann")), told)
        self.assertIs(are_separate(store, *question("doc:a stranger"), [stranger]), True)
        book = Book({"k": {"no": ((("k",),), ROWS), "w": ((("k",),), ("but", ROWS, "no")), "m": ((("k",), ("k", "w")), ROWS),
                           "r": ((("k",), ("k", "m")), ("or", ("but", ROWS, "w"), ("and", ROWS, ROWS)))}})
        store = Store(book, rows=rows("k:a no k:p", "k:a w k:p", "k:a r k:p", "k:a r k:b#m", "k:b m k:p"))
        granted = ((question("k:a no")[:2], ("row", row("k:a no k:p"))),)
        counter = ((question("k:a w")[:2],), granted)
        part = ("row", row("k:a r k:p"))
        group = ("group", row("k:a r k:b#m"), ("row", row("k:b m k:p")))
        asked = question("k:a r", ("k", "p"))
        # Both have the row of "no" in their counter-reasons, which does not count; a reason may have a row twice.
        one, two = ("or", 0, ("but", part, counter)), ("or", 0, ("but", group, counter))
        self.assertIs(are_separate(store, *asked, [one, two]), True)
        self.assertIs(are_separate(store, *asked, [("or", 1, ("and", part, part)), two]), True)
        self.assertIs(are_separate(store, *asked, [("or", 1, ("and", part, part)), one]), False)
        self.assertIs(are_separate(store, *asked, [("or", 1, ("and", part, group))]), True)

    def test_random_values(self):
        dice = random.Random(107)
        seen = {True: 0, False: 0}
        for store in [*single_stores(108, 40), *mixed_stores(109, 15)]:
            for person in persons_in(store)[:3]:
                reasons = [(pair, first_reason(store, *pair, person)) for pair in all_pairs(store)]
                reasons = [(pair, reason) for pair, reason in reasons if reason is not None]
                pool = [piece for _, reason in reasons for piece in pieces(reason)]
                for pair, reason in dice.sample(reasons, min(5, len(reasons))):
                    value = [reason]
                    if is_plain(store.book) and is_single(store.book):
                        value = separate_reasons(store, *pair, person)
                    if dice.random() < 0.6:
                        value = list(changed_paper(dice, tuple(value), [*value, *pool]) or [])
                    expected = all(expected_reason(store, *pair, person, one) for one in value)
                    if expected:
                        used = [one for reason in value for one in rows_in(reason)]
                        expected = len(used) == len(set(used))
                    self.assertIs(are_separate(store, *pair, person, value), expected)
                    seen[expected] += 1
        self.assertTrue(min(seen.values()) > 20, seen)


class TestGroundsAndBarriers(unittest.TestCase):
    def test_two_ways(self):
        store = plain_store("doc:a parent doc:b", "doc:a parent doc:c", "doc:b viewer user:ann", "doc:c viewer user:ann", "doc:c owner user:bob")
        asked = question("doc:a viewer")
        self.assertEqual(ground(store, *asked), rows("doc:a parent doc:c", "doc:c viewer user:ann"))
        self.assertEqual(barrier(store, *asked), rows("doc:b viewer user:ann", "doc:c viewer user:ann"))
        self.assertEqual([ground(store, *question("doc:b viewer")), barrier(store, *question("doc:b viewer"))], [
            rows("doc:b viewer user:ann")] * 2)

    def test_and(self):
        book = Book({"k": {"a": ((("k",),), ROWS), "b": ((("k",),), ROWS), "r": ((), ("and", ("same", "a"), ("same", "b")))}})
        store = Store(book, rows=rows("k:x a k:p", "k:x b k:p", "k:y a k:p"))
        self.assertEqual(ground(store, *question("k:x r", ("k", "p"))), rows("k:x a k:p", "k:x b k:p"))
        self.assertEqual(barrier(store, *question("k:x r", ("k", "p"))), rows("k:x b k:p"))

    def test_no(self):
        store = plain_store("doc:a parent doc:b", "doc:b viewer user:bob")
        for function in (ground, barrier):
            self.assertEqual(function(store, *question("doc:a viewer")), [])
            self.assertEqual(function(store, *question("doc:z viewer")), [])

    def test_large_papers(self):
        store = doubling_store(12)
        rules = {"k": {name: table for name, table in store.book.rules["k"].items() if name != "no"}}
        store = Store(Book(rules), rows=[one for one in store.rows if one[1] != "no"])
        asked = question("k:aa r", ("k", "p"))
        self.assertEqual(ground(store, *asked), store.rows)
        self.assertEqual(barrier(store, *asked), [store.rows[-1]])

    def test_random_stores(self):
        many = 0
        for store in [*random_stores(110, 60, words=STEADY_WORDS, many=18), *single_stores(111, 30)]:
            before = state(store)
            for person in persons_in(store)[:2]:
                for pair in all_pairs(store)[::2]:
                    asked = (*pair, person)
                    if not may(store, *asked):
                        self.assertEqual([ground(store, *asked), barrier(store, *asked)], [[], []])
                    elif many < 160:
                        self.check(store, asked)
                        many += 1
            self.assertEqual(state(store), before)
        self.assertGreater(many, 120)

    def check(self, store, asked):
        left = store.rows
        for one in store.rows:
            rest = [other for other in left if other != one]
            left = rest if holds(store.book, rest, asked) else left
        self.assertEqual(ground(store, *asked), left)
        away = store.rows
        for one in store.rows:
            rest = [other for other in away if other != one]
            there = [other for other in store.rows if other not in rest]
            away = away if holds(store.book, there, asked) else rest
        self.assertEqual(barrier(store, *asked), away)


class TestErrors(unittest.TestCase):
    def fails(self, error, function, store, *asked):
        before = state(store)
        with self.assertRaises(error) as caught:
            function(store, *asked)
        self.assertIs(type(caught.exception), error)
        self.assertEqual(state(store), before)
        return next(iter(vars(caught.exception).values()))

    def test_bad_questions_come_first(self):
        book = Book({"doc": {"owner": (USER, ("or", ROWS, ROWS)), "reader": (USER, ("but", ROWS, "owner"))}, "user": {}})
        for store in (plain_store("doc:a owner user:ann"), sample_store("doc:a owner user:ann"), Store(book)):
            wrong = [(["doc", "a"], "owner", ANN), (("doc", "a"), "parent", ANN), (("doc", "a"), "nothing", ANN), (("user", "a"), "owner", ANN),
                     (("doc", "a"), "owner", ("user",)), (("doc", "a"), "owner", ("group", "g", "member")), (("doc", "A"), "owner", ANN)]
            for value in [*odd_values(), *deep_values(), store]:
                wrong.extend([(value, "owner", ANN), (("doc", "a"), value, ANN), (("doc", "a"), "owner", value), (value, value, value)])
            for asked in wrong:
                for function in (least_cut, separate_reasons, ground, barrier):
                    told = self.fails(BadQuestion, function, store, *asked)
                    self.assertEqual([type(told), len(told)], [tuple, 3])
                    for one, given in zip(told, asked):
                        self.assertIs(one, given)

    def test_not_plain_before_not_single(self):
        twice = ("or", ROWS, ROWS)
        rules = {"k": {"a": ((("k",),), twice), "c": ((("k",),), ("and", ROWS, ROWS)), "d": ((("k",),), ("but", ROWS, "a"))},
                 "j": {"z": ((("k",),), twice)}, "l": {"b": ((("k",),), ("or", ROWS, ("and", ROWS, ROWS)))}}
        dice = random.Random(112)
        for error, expected in ((NotPlain, ("k", "c")), (NotPlain, ("k", "d")), (NotPlain, ("l", "b")), (NotSingle, ("j", "z")),
                                (NotSingle, ("k", "a"))):
            for _ in range(4):
                store = Store(Book(shuffled(dice, rules)), rows=rows("k:x a k:p"))
                for function in (least_cut, separate_reasons):
                    # The error does not hang on the question and its answer, but on the whole book.
                    for asked in (question("k:x a", ("k", "p")), question("k:y a")):
                        self.assertEqual(self.fails(error, function, store, *asked), expected)
            del rules[expected[0]][expected[1]]
            rules["k"].setdefault("a", ((("k",),), ROWS))
        store = Store(Book(rules), rows=rows("k:x a k:p"))
        self.assertEqual(least_cut(store, *question("k:x a", ("k", "p"))), store.rows)

    def test_random_books(self):
        dice = random.Random(113)
        seen = {NotPlain: 0, NotSingle: 0, NotSteady: 0, None: 0}
        for words in (("rows", "same", "via", "or"), STEADY_WORDS, ("rows", "same", "via", "or", "and", "but")):
            for _ in range(100):
                store = Store(random_book(dice, words=words, depth=dice.randint(1, 4)))
                mixed, twice = expected_places(store.book, ["and", "but"]), expected_twice(store.book)
                unsteady = expected_places(store.book, ["but"])
                place = store.book.places[0]
                asked = ((place[0], "x"), place[1], ANN)
                for function in (least_cut, separate_reasons):
                    self.check(seen, function, store, asked, (NotPlain, mixed) if mixed else (NotSingle, twice))
                for function in (ground, barrier):
                    self.check(seen, function, store, asked, (NotSteady, unsteady))
        self.assertTrue(all(many > 20 for many in seen.values()), seen)

    def check(self, seen, function, store, asked, expected):
        error, wrong = expected
        if wrong:
            self.assertEqual(self.fails(error, function, store, *asked), wrong[0])
        else:
            self.assertEqual(function(store, *asked), [])
        seen[error if wrong else None] += 1

    def test_ground_and_barrier_need_a_steady_book_alone(self):
        store = doubling_store(2)
        self.assertEqual(self.fails(NotSteady, ground, store, *question("k:aa r", ("k", "p"))), ("k", "no"))
        rules = {"k": {"a": ((("k",),), ("and", ROWS, ("or", ROWS, ROWS)))}}
        store = Store(Book(rules), rows=rows("k:x a k:p"))
        self.assertEqual(ground(store, *question("k:x a", ("k", "p"))), store.rows)
        self.assertEqual(barrier(store, *question("k:x a", ("k", "p"))), store.rows)

    def test_no_errors_for_books_of_any_sort(self):
        store = sample_store("doc:a owner user:ann")
        self.assertIs(is_cut(store, *question("doc:a viewer"), store.rows), True)
        self.assertIs(are_separate(store, *question("doc:a viewer"), [first_reason(store, *question("doc:a viewer"))]), True)


class TestAnyValue(unittest.TestCase):
    def test_odd_and_deep_values(self):
        store = sample_store("doc:a owner user:ann", "doc:a banned group:g#member")
        right, reason = store.rows, first_reason(store, *question("doc:a owner"))
        for value in [*odd_values(), *deep_values(), store, store.book, iter(right)]:
            for around in (value, [value], (value,), [*right, value], [value, *right], {"a": value}, [right, value]):
                self.assertIs(is_cut(store, *question("doc:a owner"), around), False)
            for around in (value, [value], (value,), [reason, value], [value, reason], [[reason, value]]):
                self.assertIs(are_separate(store, *question("doc:a owner"), around), around == [])
        self.assertIs(is_cut(store, *question("doc:a owner"), right), True)

    def test_what_is_no_question(self):
        store = sample_store("doc:a owner user:ann")
        for value in [*odd_values(), *deep_values()]:
            for asked in ((value, "owner", ANN), (("doc", "a"), value, ANN), (("doc", "a"), "parent", ANN), (value, value, value)):
                for given in ([], store.rows):
                    self.assertIs(is_cut(store, *asked, given), False)
                    self.assertIs(are_separate(store, *asked, given), False)


class TestConventions(unittest.TestCase):
    def test_arguments_by_name(self):
        for function in (is_plain, is_single, is_steady):
            self.assertEqual(argument_names(function), ["book"])
        for function in (least_cut, separate_reasons, ground, barrier):
            self.assertEqual(argument_names(function), ["store", "thing", "relation", "person"])
        for function in (is_cut, are_separate):
            self.assertEqual(argument_names(function), ["store", "thing", "relation", "person", "value"])
        store = plain_store("doc:a owner user:ann")
        for function in (is_plain, is_single, is_steady):
            self.assertIs(function(book=store.book), True)
            self.assertEqual(function.__module__, ways.__name__)
        for function, expected in ((least_cut, store.rows), (separate_reasons, [("row", store.rows[0])]), (ground, store.rows), (barrier, store.rows)):
            self.assertEqual(function(person=ANN, thing=("doc", "a"), relation="owner", store=store), expected)
            self.assertEqual(function.__module__, ways.__name__)
        self.assertIs(is_cut(value=store.rows, person=ANN, relation="owner", thing=("doc", "a"), store=store), True)
        self.assertIs(are_separate(value=[], person=ANN, relation="owner", thing=("doc", "a"), store=store), True)

    def test_what_is_returned_belongs_to_the_caller(self):
        store = plain_store("doc:a owner user:ann")
        for function in (least_cut, separate_reasons, ground, barrier):
            function(store, *question("doc:a owner")).clear()
            self.assertEqual(len(function(store, *question("doc:a owner"))), 1)

    def test_example(self):
        book = Book({"user": {}, "doc": {
            "parent": ((("doc",),), None), "viewer": (USER, ("or", ROWS, ("via", "parent", "viewer")))}})
        store = Store(book, rows=rows("doc:a parent doc:b", "doc:a parent doc:c", "doc:b viewer user:ann", "doc:c viewer user:ann"))
        self.assertEqual(len(least_cut(store, ("doc", "a"), "viewer", ANN)), 2)


if __name__ == "__main__":
    unittest.main()
