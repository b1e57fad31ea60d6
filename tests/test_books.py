"""Books: right rules, rings, places, levels, right rows ([2], [3], [5], [6], [7], [8])."""

import copy
import inspect
import random
import unittest

from oracle import expected_hangs, expected_level, expected_right, expected_ring, is_ring, places_of
from samples import (
    NAMES, ROWS, RULES, USER, nested_rule, random_book, random_rules, refusing_chain, right_rows, rows, sample_store,
    shuffled,
)
from sharerules import books
from sharerules.books import Book, are_rules, find_ring
from sharerules.errors import BadRules, RefusingRing
from sharerules.rules import parts
from values import argument_names, changed_values, deep_values, nested, odd_values

PLAIN = {"user": {}, "doc": {"viewer": (USER, ROWS)}}
LINKED = {"doc": {"up": ((("doc",),), None), "a": ((("doc",),), ROWS), "b": ((), ("via", "up", "a"))}}


def with_definition(allowed, rule, relation="x"):
    """The sample's rules, with one definition more in the kind doc."""
    return {**RULES, "doc": {**RULES["doc"], relation: (allowed, rule)}}


class TestAreRules(unittest.TestCase):
    def yes(self, value):
        self.assertIs(are_rules(value), True, value)
        self.assertTrue(expected_right(value))

    def no(self, value):
        self.assertIs(are_rules(value), False)

    def test_right_rules(self):
        for value in (RULES, PLAIN, LINKED, {"a": {}}, {"or": {}, "rows": {"same": ((("or",),), ROWS)}}):
            self.yes(value)

    def test_kinds(self):
        for many in range(15):
            value = {name: {} for name in NAMES[:many]}
            self.assertIs(are_rules(value), 1 <= many <= 10)
        for wrong in ["", "A", "a1", "abcdefghi", " a", 1, True, None, (), ("a",), (("a",),)]:
            self.no({wrong: {}})
            self.no({"user": {}, wrong: {}})
            self.no({wrong: {}, "user": {}})
        for wrong in [None, [], (), "", "a", 0, True, [("a", ((("a",),), ROWS))], (("a",), ROWS)]:
            self.no({"a": wrong})
            self.no({"a": {}, "b": wrong})

    def test_relations(self):
        for many in range(24):
            table = {name: ((("a",),), ROWS) for name in NAMES[:many]}
            self.assertIs(are_rules({"a": table}), many <= 20)
            self.assertIs(are_rules({"b": {}, "a": table}), many <= 20)
        # Links count, too.
        links = {name: ((("a",),), None) for name in NAMES[:20]}
        self.yes({"a": links})
        self.no({"a": {**links, "z": ((("a",),), ROWS)}})
        for wrong in ["", "A", "a1", "abcdefghi", "or", "and", "via", "but", "not", "rows", 1, True, None, (), ("a",)]:
            self.no({"a": {wrong: ((("a",),), ROWS)}})
            self.no({"a": {wrong: ((("a",),), None)}})
            self.no({"a": {"x": ((("a",),), ROWS), wrong: ((("a",),), ROWS)}})
        self.yes({"or": {"same": ((("or",),), ROWS), "abcdefgh": ((("or",),), None)}})

    def test_ten_kinds_with_twenty_relations(self):
        table = {name: (tuple((k,) for k in NAMES[:10]), ROWS) for name in NAMES[:20]}
        self.yes({kind: table for kind in NAMES[:10]})
        self.no({kind: table for kind in NAMES[:11]})
        Book({kind: table for kind in NAMES[:10]})

    def test_definitions(self):
        right = (USER, ROWS)
        for wrong in ([USER, ROWS], (USER,), (), (USER, ROWS, ROWS), (USER, None, None), ROWS, USER, None, "rows",
                      {"allowed": USER}, ([("user",)], ROWS), (USER, ["rows"]), (USER, "rows"), (ROWS, USER),
                      ("user", ROWS), (("user",), ROWS), ((["user"],), ROWS), (None, ROWS), ({}, ROWS), (USER, ()),
                      (USER, False), (USER, 0), (USER, ""), (USER, [])):
            self.no({**PLAIN, "doc": {"viewer": wrong}})
            self.no({**PLAIN, "doc": {"viewer": right, "x": wrong}})

    def test_allowed_shapes(self):
        group = ("group", "member")
        for allowed in ((("user",),), (("group",), ("user",)), (group, ("user",)), (("group",), group, ("user",)),
                        (("doc",), ("folder",), ("group",), ("user",)), (("doc", "owner"), ("doc", "x"), ("user",))):
            self.yes(with_definition(allowed, ROWS))
        for allowed in (
                (("user",), group), (("user",), ("group",)), (group, ("group",)), (("user",), ("user",)),
                (group, group, ("user",)), (("nobody",),), (("nobody", "member"), ("user",)), (("user", "x"), ("user",)),
                (("group", "nothing"), ("user",)), (("doc", "parent"), ("user",)), (("folder", "parent"), ("user",)),
                (group + ("x",), ("user",)), ((), ("user",)), ("user",), ("user", "group"), (("User",),), ((1,),),
                (("group", "or"), ("user",)), (("group", 1), ("user",)), (("group", None), ("user",)), ((("user",),),),
                (None,), (("group", ["member"]), ("user",)), ((["user"],),), (["user"],)):
            self.no(with_definition(allowed, ROWS))

    def test_links(self):
        for allowed in (USER, (("doc",), ("folder",), ("group",), ("user",)), (("doc",),)):
            self.yes(with_definition(allowed, None))
        for allowed in ((), (("group", "member"),), (("group", "member"), ("user",)), (("nobody",),)):
            self.no(with_definition(allowed, None))

    def test_what_is_allowed_goes_with_rows(self):
        inner = ("or", ("same", "owner"), ("and", ("same", "editor"), ("but", ROWS, "banned")))
        group = (("group", "member"),)
        for rule in (ROWS, inner, ("but", ROWS, "owner"), ("and", ("same", "owner"), ROWS), ("or", ROWS, ROWS)):
            self.yes(with_definition(USER, rule))
            self.yes(with_definition(group + USER, rule))
            self.no(with_definition((), rule))
            self.no(with_definition(group, rule))
        for rule in (("same", "owner"), ("via", "parent", "viewer"), ("but", ("same", "owner"), "editor"),
                     ("or", ("same", "owner"), ("via", "parent", "viewer")), ("and", ("same", "x"), ("same", "x"))):
            self.yes(with_definition((), rule))
            self.no(with_definition(USER, rule))
            self.no(with_definition(group, rule))
            self.no(with_definition(group + USER, rule))

    def test_same_and_but(self):
        for relation in ("owner", "viewer", "x"):
            self.yes(with_definition((), ("same", relation)))
            self.yes(with_definition(USER, ("but", ROWS, relation)))
        # A link, a relation of another kind, and none at all.
        for relation in ("parent", "member", "nothing"):
            self.no(with_definition((), ("same", relation)))
            self.no(with_definition((), ("or", ("same", "owner"), ("and", ("same", relation), ("same", "owner")))))
            self.no(with_definition(USER, ("but", ROWS, relation)))
            self.no(with_definition((), ("but", ("but", ("same", "owner"), relation), "owner")))
            self.no(with_definition((), ("but", ("but", ("same", "owner"), "owner"), relation)))
            self.no(with_definition((), ("but", ("same", relation), "owner")))

    def test_via(self):
        self.yes(with_definition((), ("via", "parent", "viewer")))
        # One of the kinds that the link allows is enough.
        self.yes(with_definition((), ("via", "parent", "owner")))
        for link, relation in (("parent", "parent"), ("parent", "member"), ("parent", "nothing"), ("owner", "viewer"),
                               ("nothing", "viewer"), ("viewer", "parent"), ("member", "viewer")):
            self.no(with_definition((), ("via", link, relation)))
            self.no(with_definition(USER, ("or", ROWS, ("via", link, relation))))
            self.no(with_definition((), ("but", ("via", link, relation), "owner")))
        # The relation is a link in one of the kinds, a place in another one.
        mixed = {
            "a": {"up": ((("a",), ("b",)), None), "r": ((("a",),), None), "s": ((), ("via", "up", "r"))},
            "b": {"r": ((("a",),), ROWS)},
        }
        self.yes(mixed)
        self.no({**mixed, "b": {"r": ((("a",),), None)}})
        self.no({**mixed, "b": {}})
        self.no({**mixed, "a": {**mixed["a"], "up": ((("a",),), None)}})

    def test_depth(self):
        for wrap in (lambda rule: ("or", rule, ROWS), lambda rule: ("and", ROWS, rule), lambda rule: ("but", rule, "x")):
            for depth in range(1, 9):
                self.assertIs(are_rules({"a": {"x": ((("a",),), nested_rule(depth, wrap))}}), depth <= 5)

    def test_many_pieces(self):
        self.yes(with_definition(USER, ("or", *([ROWS] * 500))))
        self.no(with_definition(USER, ("or", *([ROWS] * 500), ("same", "nothing"))))

    def test_any_other_value(self):
        for value in [*odd_values(), *deep_values(), Book(PLAIN), sample_store(), iter([PLAIN]), BadRules(PLAIN)]:
            self.no(value)
            self.no({"a": value} if value != {} else {"a": [value]})
            self.no({"a": {"x": value}})
            self.no({"a": {"x": (value, ROWS)}})
            self.no({"a": {"x": ((value,), ROWS)}})
            if value is not None:
                self.no({"a": {"x": ((("a",),), value)}} if value != ROWS else {})
            self.no({"a": {"x": ((("a",),), ("or", value, ROWS))}})
        key = nested(lambda value: (value,), 300)
        self.no({key: {}})
        self.no({"a": {key: ((("a",),), ROWS)}})

    def test_changed_rules(self):
        dice = random.Random(1)
        found = {True: 0, False: 0}
        for _ in range(150):
            rules = random_rules(dice)
            self.yes(rules)
            for value in changed_values(dice, rules, 20):
                self.assertIs(are_rules(value), expected_right(value), value)
                found[are_rules(value)] += 1
        self.assertGreater(min(found.values()), 100)

    def test_the_value_stays_as_it_is(self):
        for value in (RULES, {"a": {"x": [[("a",)], ["rows"]]}}, [RULES], {"a": [RULES]}):
            kept = copy.deepcopy(value)
            are_rules(value)
            self.assertEqual(value, kept)
            self.assertEqual(list(value), list(kept))


class TestFindRing(unittest.TestCase):
    def test_sound_rules(self):
        for rules in (RULES, PLAIN, LINKED, {"a": {}}, refusing_chain(20)):
            self.assertIsNone(find_ring(rules))
        # A ring without a refusing step is none.
        self.assertIsNone(find_ring({"a": {"x": ((), ("same", "y")), "y": ((), ("same", "x")), "z": ((), ("same", "z"))}}))

    def test_one_place(self):
        for rule in (("but", ("same", "x"), "x"), ("but", ROWS, "x"), ("and", ROWS, ("but", ("same", "y"), "x"))):
            allowed = (("a",),) if "rows" in str(rule) else ()
            rules = {"a": {"y": ((("a",),), ROWS), "x": (allowed, rule)}}
            self.assertEqual(find_ring(rules), [("a", "x")])

    def test_by_each_sort_of_step(self):
        back = {
            "same": ((), ("same", "x")),
            "but": ((("a",),), ("but", ROWS, "x")),
            "rows": ((("a",), ("a", "x")), ROWS),
            "via": ((), ("via", "up", "x")),
        }
        for word, definition in back.items():
            rules = {"a": {"up": ((("a",),), None), "x": ((("a",),), ("but", ROWS, "y")), "y": definition}}
            self.assertEqual(find_ring(rules), [("a", "x"), ("a", "y")], word)
        # The groups of a link's kinds are no steps, and rows are none without ("rows",).
        rules = {"a": {"up": ((("a",),), None), "x": ((("a",),), ("but", ROWS, "y")), "y": ((("a",),), ROWS)}}
        self.assertIsNone(find_ring(rules))

    def test_over_several_kinds(self):
        rules = {
            "b": {"up": ((("a",), ("c",)), None), "r": ((), ("via", "up", "s"))},
            "a": {"s": ((("a",), ("c", "t")), ("but", ROWS, "q")), "q": ((("a",), ("b", "r")), ROWS)},
            "c": {"s": ((("a",),), ROWS), "t": ((("a",),), ROWS)},
        }
        self.assertEqual(find_ring(rules), [("a", "s"), ("a", "q"), ("b", "r")])

    def test_the_shortest_one_and_the_least_of_these(self):
        rule = ("but", ("but", ("or", ("same", "d"), ("same", "b")), "c"), "b")
        rules = {"a": {
            "a": ((), rule), "b": ((), ("same", "e")), "c": ((), ("same", "e")), "d": ((), ("same", "a")),
            "e": ((), ("or", ("same", "a"), ("same", "d"))),
        }}
        self.assertEqual(find_ring(rules), [("a", "a"), ("a", "b"), ("a", "e")])
        rules["a"]["z"] = ((), ("but", ("same", "y"), "y"))
        rules["a"]["y"] = ((), ("but", ("same", "a"), "z"))
        self.assertEqual(find_ring(rules), [("a", "y"), ("a", "z")])
        rules["a"]["x"] = ((), ("but", ("same", "a"), "x"))
        self.assertEqual(find_ring(rules), [("a", "x")])

    def test_the_refusing_step_comes_first(self):
        # Both are in the ring; only from the greater one is the first step refusing.
        rules = {"a": {"x": ((), ("same", "y")), "y": ((("a",),), ("but", ROWS, "x"))}}
        self.assertEqual(find_ring(rules), [("a", "y"), ("a", "x")])

    def test_long_rings(self):
        for many in range(2, 20):
            rules = refusing_chain(many)
            rules["k"][NAMES[0]] = ((("k",),), ("but", ROWS, NAMES[many - 1]))
            ring = find_ring(rules)
            self.assertEqual(ring, [("k", "a")] + [("k", name) for name in NAMES[1:many][::-1]])

    def test_random_rules(self):
        dice = random.Random(2)
        lengths = {}
        for _ in range(700):
            rules = random_rules(dice)
            kept = copy.deepcopy(rules)
            ring = find_ring(rules)
            self.assertEqual(ring, expected_ring(rules), rules)
            self.assertEqual(rules, kept)
            self.assertEqual(find_ring(shuffled(dice, rules)), ring)
            lengths[ring and len(ring)] = lengths.get(ring and len(ring), 0) + 1
            if ring is not None:
                self.assertTrue(is_ring(rules, ring))
                self.assertIs(type(ring), list)
        for length in (None, 1, 2, 3):
            self.assertGreater(lengths[length], 5)

    def test_it_is_new_each_time(self):
        rules = {"a": {"x": ((), ("but", ("same", "x"), "x"))}}
        find_ring(rules).append(1)
        self.assertEqual(find_ring(rules), [("a", "x")])


class TestBook(unittest.TestCase):
    def test_bad_rules(self):
        self.assertIs(self.raised(BadRules, None).value, None)
        for value in [*odd_values(), *deep_values(), Book(PLAIN), sample_store(), {"a": []}, {"A": {}},
                      {"a": {"x": ((), ROWS)}}, [RULES]]:
            self.assertIs(self.raised(BadRules, value).value, value)

    def raised(self, error, value):
        with self.assertRaises(error) as caught:
            Book(value)
        self.assertIs(type(caught.exception), error)
        return caught.exception

    def test_bad_rules_come_before_rings(self):
        rules = {"a": {"x": ((), ("but", ("same", "x"), "x")), "y": ((), ("same", "z"))}}
        self.assertIs(self.raised(BadRules, rules).value, rules)
        del rules["a"]["y"]
        self.assertEqual(self.raised(RefusingRing, rules).ring, [("a", "x")])

    def test_a_book_is_made_or_its_ring_is_told(self):
        dice = random.Random(3)
        for _ in range(300):
            rules = random_rules(dice)
            ring = find_ring(rules)
            if ring is None:
                self.assertEqual(Book(rules).rules, rules)
            else:
                self.assertEqual(self.raised(RefusingRing, rules).ring, ring)

    def test_parts(self):
        book = Book(RULES)
        self.assertEqual(book.rules, RULES)
        self.assertEqual(book.kinds, ["doc", "folder", "group", "user"])
        self.assertEqual(book.relations("user"), [])
        self.assertEqual(book.relations("folder"), ["parent", "viewer"])
        self.assertEqual(
            book.relations("doc"), ["banned", "both", "editor", "owner", "parent", "stranger", "viewer"])
        self.assertEqual(book.allowed("doc", "parent"), (("doc",), ("folder",)))
        self.assertEqual(book.allowed("group", "member"), (("group", "member"), ("user",)))
        self.assertIsNone(book.rule("doc", "parent"))
        self.assertEqual(book.rule("folder", "viewer"), ("or", ROWS, ("via", "parent", "viewer")))
        self.assertEqual(book.places, [
            ("doc", "banned"), ("doc", "both"), ("doc", "editor"), ("doc", "owner"), ("doc", "stranger"),
            ("doc", "viewer"), ("folder", "viewer"), ("group", "member")])
        for kind in RULES:
            for relation, definition in RULES[kind].items():
                self.assertEqual((book.allowed(kind, relation), book.rule(kind, relation)), definition)

    def test_parts_of_random_books(self):
        dice = random.Random(4)
        for _ in range(100):
            book = random_book(dice)
            self.assertEqual(book.places, places_of(book.rules))
            self.assertEqual(book.kinds, sorted(book.rules))
            for kind in book.kinds:
                self.assertEqual(book.relations(kind), sorted(book.rules[kind]))

    def test_what_is_returned_belongs_to_the_caller(self):
        book = Book(RULES)
        book.rules["doc"]["x"] = (USER, ROWS)
        book.rules["more"] = {}
        book.kinds.append("more")
        book.relations("user").append("x")
        book.places.clear()
        self.assertEqual(book.rules, RULES)
        self.assertEqual(book.kinds, ["doc", "folder", "group", "user"])
        self.assertEqual(book.relations("user"), [])
        self.assertEqual(len(book.places), 8)
        self.assertEqual([type(value) for value in (book.rules, book.kinds, book.relations("doc"), book.places)],
                         [dict, list, list, list])
        self.assertEqual(type(book.rules["doc"]), dict)

    def test_what_is_handed_in_may_be_changed(self):
        rules = {"user": {}, "doc": {"viewer": (USER, ROWS)}}
        book = Book(rules)
        rules["doc"]["x"] = (USER, ROWS)
        rules["doc"]["viewer"] = (USER, None)
        rules["more"] = {}
        self.assertEqual(book.rules, PLAIN)
        self.assertEqual(book.places, [("doc", "viewer")])
        self.assertEqual(book, Book(PLAIN))
        self.assertIs(("doc", "x") in book, False)
        self.assertEqual(book.relations("doc"), ["viewer"])

    def test_properties(self):
        for name in ("rules", "kinds", "places"):
            self.assertIsInstance(inspect.getattr_static(Book, name), property)

    def test_equality(self):
        dice = random.Random(5)
        some = [random_book(dice) for _ in range(40)] + [Book(RULES), Book(PLAIN), Book(LINKED)]
        for book in some:
            again = Book(shuffled(dice, book.rules))
            self.assertIs(book == again, True)
            self.assertIs(book != again, False)
            for other in some:
                self.assertIs(book == other, book.rules == other.rules)
                self.assertIs(book != other, book.rules != other.rules)
            for other in [*odd_values(), *deep_values(), book.rules, sample_store(), BadRules(book)]:
                self.assertIs(book == other, False)
                self.assertIs(other == book, False)
                self.assertIs(book != other, True)

    def test_small_differences(self):
        one = Book(PLAIN)
        for rules in ({**PLAIN, "more": {}}, {**PLAIN, "user": {"viewer": (USER, ROWS)}},
                      {"user": {}, "doc": {"viewer": (USER, None)}}, {"user": {}, "doc": {"reader": (USER, ROWS)}},
                      {"user": {}, "doc": {"viewer": (USER, ("or", ROWS, ROWS))}},
                      {"user": {}, "doc": {"viewer": ((("doc",), ("user",)), ROWS)}}):
            self.assertIs(one == Book(rules), False)

    def test_in_for_any_value(self):
        book = Book(RULES)
        for place in book.places:
            self.assertIs(place in book, True)
            self.assertIs(list(place) in book, False)
            self.assertIs(place + place in book, False)
            self.assertIs(place[:1] in book, False)
            self.assertIs((place,) in book, False)
            self.assertIs(place[::-1] in book, False)
        for value in [("doc", "parent"), ("folder", "parent"), ("user", "owner"), ("doc", "member"), ("doc", ""),
                      ("nobody", "owner"), ("doc", "rows"), "doc", "do", None, *odd_values(), *deep_values(), book,
                      sample_store()]:
            self.assertIs(value in book, False)
            self.assertIs(("doc", value) in book, False)
            self.assertIs((value, "owner") in book, value == "doc")
        value = ["doc", ["owner"]]
        self.assertIs(value in book, False)
        self.assertEqual(value, ["doc", ["owner"]])


class TestHangs(unittest.TestCase):
    def test_of_the_sample(self):
        book = Book(RULES)
        found = {place: list(book.hangs(place)) for place in book.places}
        member = (("group", "member"), False)
        self.assertEqual(found, {
            ("doc", "banned"): [member],
            ("doc", "both"): [(("doc", "editor"), False), (("doc", "viewer"), False)],
            ("doc", "editor"): [(("doc", "owner"), False), member],
            ("doc", "owner"): [],
            ("doc", "stranger"): [(("doc", "viewer"), True)],
            ("doc", "viewer"): [
                (("doc", "banned"), True), (("doc", "editor"), False), (("doc", "viewer"), False),
                (("folder", "viewer"), False)],
            ("folder", "viewer"): [(("folder", "viewer"), False), member],
            ("group", "member"): [member],
        })

    def test_in_both_ways(self):
        rules = {"a": {"y": ((("a",),), ROWS), "x": ((), ("but", ("or", ("same", "y"), ("same", "y")), "y"))}}
        self.assertEqual(list(Book(rules).hangs(("a", "x"))), [(("a", "y"), False), (("a", "y"), True)])

    def test_it_yields(self):
        found = Book(RULES).hangs(("doc", "editor"))
        self.assertTrue(inspect.isgenerator(found))
        self.assertEqual(next(found), (("doc", "owner"), False))
        self.assertEqual(list(found), [(("group", "member"), False)])

    def test_random_books(self):
        dice = random.Random(6)
        for _ in range(300):
            book = random_book(dice)
            for place in book.places:
                found = list(book.hangs(place))
                self.assertEqual(found, expected_hangs(book.rules, place))
                for step in found:
                    self.assertEqual([type(step), type(step[0]), type(step[1])], [tuple, tuple, bool])


class TestLevel(unittest.TestCase):
    def test_of_the_sample(self):
        book = Book(RULES)
        levels = {place: book.level(place) for place in book.places}
        self.assertEqual(levels.pop(("doc", "viewer")), 1)
        self.assertEqual(levels.pop(("doc", "both")), 1)
        self.assertEqual(levels.pop(("doc", "stranger")), 2)
        self.assertEqual(set(levels.values()), {0})

    def test_chains(self):
        for many in range(1, 21):
            book = Book(refusing_chain(many))
            self.assertEqual([book.level(place) for place in book.places], list(range(many)))

    def test_chains_over_ten_kinds(self):
        # 190 refusing steps: each kind's chain goes on, through a link, at the top of the next one's.
        rules = {}
        for at in range(10):
            kind = NAMES[at]
            rules[kind] = refusing_chain(19)["k"]
            rules[kind] = {name: (((kind,),), rule) for name, (_, rule) in rules[kind].items()}
            rules[kind]["up"] = (((NAMES[min(at + 1, 9)],),), None)
            if at < 9:
                rules[kind]["a"] = (((kind,),), ("or", ROWS, ("via", "up", NAMES[18])))
        book = Book(rules)
        self.assertEqual(book.level(("a", NAMES[18])), 180)
        self.assertEqual(book.level(("j", "a")), 0)

    def test_random_books(self):
        dice = random.Random(7)
        levels = []
        for _ in range(200):
            book = random_book(dice)
            for place in book.places:
                levels.append(book.level(place))
                self.assertEqual(levels[-1], expected_level(book.rules, place))
                self.assertIs(type(levels[-1]), int)
        self.assertTrue({0, 1, 2} <= set(levels))


class TestHasRow(unittest.TestCase):
    def test_right_rows(self):
        book = Book(RULES)
        for row in rows("doc:a owner user:b", "doc:a editor group:b#member", "doc:a parent doc:a",
                        "doc:a parent folder:b", "group:a member group:a#member", "folder:a viewer user:a"):
            self.assertIs(book.has_row(row), True)
        for row in rows("doc:a owner group:b#member", "doc:a owner doc:b", "doc:a parent user:b",
                        "doc:a parent folder:b#viewer", "user:a owner user:b", "no:a owner user:b", "doc:a no user:b",
                        "doc:a member user:b", "doc:a editor group:b", "doc:a editor no:b", "doc:a editor group:b#no"):
            self.assertIs(book.has_row(row), False)

    def test_random_books(self):
        dice = random.Random(8)
        for _ in range(40):
            book = random_book(dice)
            right = right_rows(book, ("x",))
            for row in right:
                self.assertIs(book.has_row(row), True)
                for value in changed_values(dice, row, 10):
                    same_shape = self.named_anew(value)
                    self.assertIs(book.has_row(value), same_shape in right, value)

    def named_anew(self, value):
        """The same row with all names of objects x, or None for what is no row at all."""
        try:
            (kind, name), relation, subject = value
            first, other = subject[:2]
            right = isinstance(value, tuple) and isinstance(value[0], tuple) and isinstance(subject, tuple)
            letters = [len(one) in range(1, 9) and one.isalpha() and one.islower() for one in (name, other)]
        except (ValueError, TypeError, AttributeError, KeyError):
            return None
        return ((kind, "x"), relation, (first, "x", *subject[2:])) if right and all(letters) else None

    def test_any_other_value(self):
        book = Book(RULES)
        thing, relation, subject = rows("doc:a editor group:b#member")[0]
        for value in [*odd_values(), *deep_values(), book, sample_store()]:
            for whole in (value, (value, relation, subject), (thing, value, subject), (thing, relation, value),
                          (("doc", value), relation, subject), (thing, relation, ("group", "b", value))):
                self.assertIs(book.has_row(whole), False)
        value = [["doc", "a"], "owner", ["user", "b"]]
        kept = copy.deepcopy(value)
        self.assertIs(book.has_row(value), False)
        self.assertEqual(value, kept)


class TestConventions(unittest.TestCase):
    def test_arguments_by_name(self):
        names = {
            are_rules: ["value"], find_ring: ["rules"], Book: ["rules"], Book.relations: ["self", "kind"],
            Book.allowed: ["self", "kind", "relation"], Book.rule: ["self", "kind", "relation"],
            Book.hangs: ["self", "place"], Book.level: ["self", "place"], Book.has_row: ["self", "value"],
        }
        for function, expected in names.items():
            self.assertEqual(argument_names(function), expected)
        book = Book(rules=LINKED)
        self.assertEqual(book.relations(kind="doc"), ["a", "b", "up"])
        self.assertEqual(book.allowed(relation="up", kind="doc"), (("doc",),))
        self.assertEqual(book.rule(relation="b", kind="doc"), ("via", "up", "a"))
        self.assertEqual(list(book.hangs(place=("doc", "b"))), [(("doc", "a"), False)])
        self.assertEqual(book.level(place=("doc", "b")), 0)
        self.assertIs(book.has_row(value=rows("doc:a up doc:b")[0]), True)
        self.assertIs(are_rules(value=LINKED), True)
        self.assertIsNone(find_ring(rules=LINKED))

    def test_the_file_defines_them(self):
        for function in (are_rules, find_ring, Book):
            self.assertEqual(function.__module__, books.__name__)

    def test_parts_of_rules_of_a_book(self):
        book = Book(RULES)
        self.assertEqual(list(parts(book.rule("folder", "viewer")))[1:], [ROWS, ("via", "parent", "viewer")])

    def test_examples(self):
        rules = {"doc": {"a": ((("doc",),), ("but", ROWS, "b")), "b": ((), ("same", "a"))}}
        self.assertEqual(find_ring(rules), [("doc", "a"), ("doc", "b")])
        book = Book({"user": {}, "doc": {
            "owner": (USER, ROWS), "banned": (USER, ROWS), "reader": ((), ("but", ("same", "owner"), "banned"))}})
        place = ("doc", "reader")
        self.assertEqual([book.places, book.level(place), list(book.hangs(place))], [
            [("doc", "banned"), ("doc", "owner"), ("doc", "reader")], 1,
            [(("doc", "banned"), True), (("doc", "owner"), False)]])


if __name__ == "__main__":
    unittest.main()
