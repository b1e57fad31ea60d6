"""Comparing books: ways that part them, tables and layers ([2], [15], [16], [17])."""

import random
import string
import unittest
from unittest import mock

from oracle import expected_stands, right_name
from papers import changed_paper, pieces
from samples import ROWS, RULES, USER, alike_books, random_book, random_rules, shuffled
from sharerules import compare
from sharerules.books import Book, find_ring
from sharerules.compare import are_alike, equal_table, is_table, layers, parting_way
from sharerules.errors import NotAlike, NotPlain
from sharerules.grants import may
from sharerules.names import is_row
from sharerules.store import Store
from sharerules.texts import read_book
from values import argument_names, changed_values, deep_values, odd_values

K = (("k",),)


def columns():
    """The names "a", "b", .. "z", "aa", "ab", .., "zz", "aaa", .. one after the other."""
    names = [""]
    while True:
        names = [name + letter for name in names for letter in string.ascii_lowercase]
        yield from names


def rule_of(book, place):
    return book.rules[place[0]][place[1]][1]


def leaves(rule):
    """The rules within a plain rule that are no "or"."""
    return [leaf for part in rule[1:] for leaf in leaves(part)] if rule[0] == "or" else [rule]


def needs(book, kind, relations):
    """The relations and those that are reached from them by "same" ([17])."""
    found = set(relations)
    while True:
        more = {leaf[1] for name in found for leaf in leaves(rule_of(book, (kind, name))) if leaf[0] == "same"}
        if more <= found:
            return found
        found |= more


def ends(book, kind, relations):
    return {name for name in needs(book, kind, relations) if ROWS in leaves(rule_of(book, (kind, name)))}


def via(book, kind, relations, link, there):
    """The relations that are places of a kind and are used via a link in the needs of some relations."""
    used = {leaf[2] for name in needs(book, kind, relations) for leaf in leaves(rule_of(book, (kind, name))) if leaf[:2] == ("via", link)}
    return tuple(sorted(name for name in used if book.rules[there].get(name, (0, None))[1] is not None))


def led_to(first, second, triple):
    """The triples that a table must have because of a triple ([17]), if the same rows end ways by it."""
    kind, firsts, seconds = triple
    table = first.rules[kind]
    found = {(shape[0], shape[1:], shape[1:]) for name in ends(first, kind, firsts) for shape in table[name][0] if len(shape) == 2}
    for link in [name for name, (_, rule) in table.items() if rule is None]:
        for (there,) in table[link][0]:
            pair = (via(first, kind, firsts, link, there), via(second, kind, seconds, link, there))
            if pair != ((), ()):
                found.add((there, *pair))
    return found


def is_parting(first, second, triple):
    return ends(first, triple[0], triple[1]) != ends(second, triple[0], triple[2])


def expected_layers(first, second, place):
    found = [[(place[0], place[1:], place[1:])]]
    seen = set(found[0])
    while not any(is_parting(first, second, triple) for triple in found[-1]):
        layer = {there for triple in found[-1] for there in led_to(first, second, triple)} - seen
        if not layer:
            break
        found.append(sorted(layer))
        seen |= layer
    return found


def expected_table(first, second, place, value):
    """Whether a value is a table that shows that two books are equal for a place ([17])."""
    if type(value) is not list:
        return False
    for at, triple in enumerate(value):
        if type(triple) is not tuple or len(triple) != 3 or type(triple[0]) is not str or triple[0] not in first.rules:
            return False
        if triple in value[:at]:
            return False
        for names in triple[1:]:
            if type(names) is not tuple or not all(right_name(name) for name in names) or list(names) != sorted(set(names)):
                return False
            if not all(first.rules[triple[0]].get(name, (0, None))[1] is not None for name in names):
                return False
    if (place[0], place[1:], place[1:]) not in value:
        return False
    return all(not is_parting(first, second, triple) and led_to(first, second, triple) <= set(value) for triple in value)


def answer_by(book, place, way):
    """The answer by a way, taken as a store, for the object of its first row and its person."""
    standing = {place[1]}
    for at, (thing, relation, subject) in enumerate(way):
        if relation not in book.rules[thing[0]]:
            return False
        if book.rules[thing[0]][relation][1] is None:
            standing = set(via(book, thing[0], standing, relation, subject[0]))
        elif relation not in ends(book, thing[0], standing):
            return False
        elif at == len(way) - 1:
            return len(subject) == 2
        elif len(subject) == 2:
            return False
        else:
            standing = {subject[2]}
    return False


def is_way(book, place, way):
    """Whether a value is a way for a place ([16])."""
    things = [one[0] for one in way] + [way[-1][2]]
    if not all(is_row(one) and book.has_row(one) for one in way) or way[0][0][0] != place[0]:
        return False
    return len(set(things)) == len(things) and all(one[2][:2] == things[at + 1] for at, one in enumerate(way))


def all_ways(book, place, length):
    """All ways of so many rows, with one choice of names."""
    names = columns()
    names = [next(names) for _ in range(length + 1)]

    def further(kind, at):
        if at == length:
            yield []
            return
        for relation, (allowed, _) in sorted(book.rules[kind].items()):
            for shape in allowed:
                if at < length - 1 or len(shape) == 1:
                    for rest in further(shape[0], at + 1):
                        yield [((kind, names[at]), relation, (shape[0], names[at + 1], *shape[1:])), *rest]

    return further(place[0], 0)


def chain_books(*lengths):
    """Two books that give the same answers for all ways but those of a length that all lengths divide."""
    first = {"l": (K, None), "e": (K, ROWS)}
    for length in lengths:
        for at in range(length):
            step = ("via", "l", f"c{'abcdefgh'[length]}{'abcdefgh'[(at + 1) % length]}")
            first[f"c{'abcdefgh'[length]}{'abcdefgh'[at]}"] = ((), ("or", ("same", "e"), step) if at else step)
    second = {name: told if name in ("l", "e") else ((), ("same", "e")) for name, told in first.items()}
    first["s"] = ((), ("or", ("same", "e"), *[("same", f"c{'abcdefgh'[length]}a") for length in lengths]))
    second["s"] = ((), ("or", ("same", "e"), ("via", "l", "s")))
    return Book({"k": first}), Book({"k": second})


class TestAlike(unittest.TestCase):
    def fails(self, error, function, first, second, place):
        before = (first.rules, second.rules)
        with self.assertRaises(error) as caught:
            function(first, second, place)
        self.assertIs(type(caught.exception), error)
        self.assertEqual((first.rules, second.rules), before)
        return caught.exception.place

    def not_alike(self, one, two, expected, place=("k", "r")):
        for first, second in ((Book(one), Book(two)), (Book(two), Book(one))):
            self.assertIs(are_alike(first, second), False)
            for function in (parting_way, equal_table, layers):
                self.assertEqual(self.fails(NotAlike, function, first, second, place), expected)
            for value in ([], [("k", ("r",), ("r",))]):
                self.assertIs(is_table(first, second, place, value), False)

    def test_alike(self):
        one = {"k": {"l": (K, None), "r": (K, ROWS), "s": ((), ("same", "r"))}}
        for rule in (("same", "r"), ("same", "s"), ("via", "l", "r"), ("or", ("same", "r"), ("same", "s"))):
            two = {"k": {"s": ((), rule), "r": (K, ("or", ROWS, ("same", "s"))), "l": (K, None)}}
            self.assertIs(are_alike(Book(one), Book(two)), True)
            self.assertIs(are_alike(Book(two), Book(one)), True)
        book = Book(RULES)
        self.assertIs(are_alike(book, book), True)
        # Alike books need not be plain.
        two = {"k": {**one["k"], "s": ((), ("but", ("same", "r"), "r"))}}
        self.assertIs(are_alike(Book(one), Book(two)), True)

    def test_not_alike(self):
        one = {"k": {"l": (K, None), "r": (K, ROWS), "s": ((), ("same", "r"))}, "u": {}}
        k = one["k"]
        for table, expected in (
            ({**k, "t": ((), ("same", "r"))}, ("k", "t")), ({**k, "a": (K, None)}, ("k", "a")), ({"r": (K, ROWS)}, ("k", "l")),
            ({**k, "l": ((("k",), ("u",)), None)}, ("k", "l")), ({**k, "l": (K, ROWS)}, ("k", "l")), ({**k, "s": (K, None)}, ("k", "s")),
            ({**k, "r": ((("k",), ("u",)), ROWS)}, ("k", "r")), ({**k, "r": ((("k",), ("k", "r")), ROWS)}, ("k", "r")),
            ({**k, "s": (K, ("or", ROWS, ("same", "r")))}, ("k", "s")), ({**k, "r": ((("u",),), ROWS), "a": (K, ROWS)}, ("k", "a")),
            ({**k, "r": ((("u",),), ROWS), "t": (K, ROWS)}, ("k", "r")),
        ):
            self.not_alike(one, {"k": table, "u": {}}, expected)
            # A kind that only one of them has, before and behind.
            self.not_alike(one, {"k": table, "u": {}, "z": {}}, expected)
            self.not_alike(one, {"k": table, "u": {}, "z": {"a": (K, ROWS)}}, expected)
            self.not_alike(one, {"k": table, "u": {}, "j": {"a": (K, ROWS)}}, ("j", ""))
            self.not_alike({**one, "kk": {}}, {"k": table, "u": {}}, expected)
        self.not_alike(one, {**one, "z": {}}, ("z", ""))
        self.not_alike(one, {"k": k}, ("u", ""))
        self.not_alike(one, {"j": {"r": ((("j",),), ROWS)}}, ("j", ""))
        self.not_alike(one, {**one, "u": {"a": (K, None)}}, ("u", "a"))

    def test_random_books(self):
        dice = random.Random(121)
        seen = {True: 0, False: 0}
        for _ in range(300):
            one = random_book(dice)
            rules = one.rules
            for value in changed_values(dice, rules, 3):
                try:
                    two = Book(shuffled(dice, value))
                except ValueError:
                    continue
                expected = self.difference(rules, value)
                self.assertIs(are_alike(one, two), expected is None)
                seen[expected is None] += 1
                if expected is not None:
                    self.assertEqual(self.fails(NotAlike, layers, one, two, ("a", "k")), expected)
        self.assertTrue(min(seen.values()) > 20, seen)

    def difference(self, one, two):
        told = [{(kind, name): (definition[0], definition[1] is None) for kind, table in rules.items() for name, definition in table.items()}
                for rules in (one, two)]
        kinds = [(kind, "") for kind in {*one, *two} if kind not in one or kind not in two]
        return min([*kinds, *[pair for pair in {*told[0], *told[1]} if told[0].get(pair) != told[1].get(pair)]], default=None)

    def test_not_plain(self):
        plain = {"k": {"a": (K, ROWS), "r": ((), ("same", "a")), "s": ((), ("same", "a"))}}
        both = {"k": {**plain["k"], "r": ((), ("and", ("same", "a"), ("same", "s")))}}
        but = {"k": {**plain["k"], "r": ((), ("or", ("same", "a"), ("but", ("same", "s"), "a"))), "a": (K, ROWS)}}
        deep = {"k": {**plain["k"], "s": ((), ("or", ("same", "a"), ("or", ("and", ("same", "a"), ("same", "a")), ("same", "a"))))}}
        for one, two, expected in ((both, plain, ("k", "r")), (plain, both, ("k", "r")), (but, plain, ("k", "r")), (plain, but, ("k", "r")),
                                   (deep, both, ("k", "s")), (both, deep, ("k", "r")), (plain, deep, ("k", "s")), (deep, deep, ("k", "s"))):
            for function in (parting_way, equal_table, layers):
                for place in (("k", "a"), ("k", "r")):
                    self.assertEqual(self.fails(NotPlain, function, Book(one), Book(two), place), expected)
            self.assertIs(is_table(Book(one), Book(two), ("k", "a"), [("k", ("a",), ("a",))]), False)
        # What is not alike comes first.
        more = {"k": {**both["k"], "z": (K, ROWS)}}
        for function in (parting_way, equal_table, layers):
            self.assertEqual(self.fails(NotAlike, function, Book(more), Book(both), ("k", "a")), ("k", "z"))


class TestWays(unittest.TestCase):
    def told(self, first, second, place, expected):
        """The layers, and the way or table that goes with them."""
        before = (first.rules, second.rules)
        found = layers(first, second, place)
        self.assertEqual(found, expected)
        self.assertEqual(found, expected_layers(first, second, place))
        way, table = parting_way(first, second, place), equal_table(first, second, place)
        self.assertEqual([way is None, table is None], [table is not None, way is not None])
        if way is not None:
            self.check_way(first, second, place, way, len(found))
        else:
            self.check_table(first, second, place, table)
        self.assertEqual((first.rules, second.rules), before)
        return way if table is None else table

    def check_way(self, first, second, place, way, many):
        self.assertIs(type(way), list)
        self.assertEqual(len(way), many)
        self.assertIs(is_way(first, place, way), True)
        names = columns()
        self.assertEqual([name for (_, name), _, _ in way] + [way[-1][2][1]], [next(names) for _ in range(many + 1)])
        self.assertNotEqual(answer_by(first, place, way), answer_by(second, place, way))
        with mock.patch.object(Store, "LIMIT", 1000):
            answers = [may(Store(book, rows=way), way[0][0], place[1], way[-1][2]) for book in (first, second)]
        self.assertEqual(answers, [answer_by(first, place, way), answer_by(second, place, way)])

    def check_table(self, first, second, place, table):
        self.assertIs(type(table), list)
        self.assertIs(expected_table(first, second, place, table), True)
        self.assertIs(is_table(first, second, place, table), True)
        self.assertEqual(equal_table(first, second, place), table)

    def test_the_same_book(self):
        book = Book({"k": {"l": (K, None), "r": (K, ("or", ROWS, ("via", "l", "r")))}, "u": {}})
        self.assertEqual(self.told(book, book, ("k", "r"), [[("k", ("r",), ("r",))]]), [("k", ("r",), ("r",))])

    def test_one_row(self):
        one = Book({"k": {"a": (K, ROWS), "b": (K, ROWS), "r": ((), ("same", "a"))}})
        two = Book({"k": {"a": (K, ROWS), "b": (K, ROWS), "r": ((), ("same", "b"))}})
        for first, second in ((one, two), (two, one)):
            way = self.told(first, second, ("k", "r"), [[("k", ("r",), ("r",))]])
            self.assertIn(way, ([(("k", "a"), name, ("k", "b"))] for name in "ab"))
            self.told(first, second, ("k", "a"), [[("k", ("a",), ("a",))]])

    def test_links_and_groups(self):
        def book(rule):
            return Book({"u": {}, "g": {"m": ((("g", "m"), ("g", "n"), ("u",)), ROWS), "n": ((("u",),), ("or", ROWS, rule)), "o": ((("u",),), ROWS)},
                         "d": {"l": ((("d",), ("g",)), None), "v": ((("g", "m"), ("u",)), ("or", ROWS, ("via", "l", "v"), ("via", "l", "o")))}})

        start = [("d", ("v",), ("v",))]
        behind = [("g", ("m",), ("m",)), ("g", ("o",), ("o",))]
        one, two = book(("same", "n")), book(("same", "o"))
        way = self.told(one, two, ("d", "v"), [start, behind, [("g", ("n",), ("n",))]])
        self.assertEqual(way, [(("d", "a"), "v", ("g", "b", "m")), (("g", "b"), "m", ("g", "c", "n")), (("g", "c"), "o", ("u", "d"))])
        table = self.told(one, one, ("d", "v"), [start, behind, [("g", ("n",), ("n",))]])
        self.assertEqual(sorted(table), sorted([*start, *behind, ("g", ("n",), ("n",))]))

    def test_places_that_a_linked_kind_has(self):
        def book(rule):
            return Book({"a": {"l": ((("a",), ("b",), ("c",)), None), "r": ((("c",),), ROWS), "s": ((), rule)},
                         "b": {"r": ((("c",),), None), "s": ((("c",),), ROWS)}, "c": {}})

        one, two = book(("via", "l", "s")), book(("or", ("via", "l", "s"), ("via", "l", "r")))
        found = [[("a", ("s",), ("s",))], [("a", ("s",), ("r", "s")), ("b", ("s",), ("s",))]]
        self.assertEqual(self.told(one, two, ("a", "s"), found), [(("a", "a"), "l", ("a", "b")), (("a", "b"), "r", ("c", "c"))])
        found = [[("a", ("s",), ("s",))], [("a", ("r", "s"), ("r", "s")), ("b", ("s",), ("s",))]]
        self.told(two, two, ("a", "s"), found)

    def test_where_nobody_may_stand_any_more(self):
        def book(rule):
            return Book({"k": {"l": (K, None), "e": (K, ROWS), "n": ((), ("same", "n")), "r": ((), rule)}})

        one, two = book(("via", "l", "n")), book(("via", "l", "r"))
        self.told(one, two, ("k", "r"), [[("k", ("r",), ("r",))], [("k", ("n",), ("r",))], [("k", (), ("r",))]])
        self.told(one, one, ("k", "r"), [[("k", ("r",), ("r",))], [("k", ("n",), ("n",))]])
        # The link is used by one of the books alone, but nobody comes to stand by it.
        one = book(("same", "e"))
        two = book(("or", ("same", "e"), ("via", "l", "n")))
        self.told(one, two, ("k", "r"), [[("k", ("r",), ("r",))], [("k", (), ("n",))]])
        two = book(("or", ("same", "e"), ("via", "l", "e")))
        way = self.told(one, two, ("k", "r"), [[("k", ("r",), ("r",))], [("k", (), ("e",))]])
        self.assertEqual(way, [(("k", "a"), "l", ("k", "b")), (("k", "b"), "e", ("k", "c"))])

    def test_long_ways(self):
        for lengths, many in (([2], 3), ([2, 3], 7), ([3, 4], 13), ([5, 6], 31), ([2, 3, 5], 31), ([3, 5, 7], 106), ([2, 3, 5, 7], 211)):
            first, second = chain_books(*lengths)
            found = layers(first, second, ("k", "s"))
            self.assertEqual(len(found), many)
            self.assertEqual(found, expected_layers(first, second, ("k", "s")))
            self.assertTrue(all(layer == sorted(layer) for layer in found))
            for one, two in ((first, second), (second, first)):
                way = parting_way(one, two, ("k", "s"))
                self.check_way(one, two, ("k", "s"), way, many)
                self.assertIs(equal_table(one, two, ("k", "s")), None)
            self.assertEqual([answer_by(first, ("k", "s"), way), answer_by(second, ("k", "s"), way)], [False, True])
        self.assertEqual(way[25:28], [(("k", "z"), "l", ("k", "aa")), (("k", "aa"), "l", ("k", "ab")), (("k", "ab"), "l", ("k", "ac"))])
        self.assertEqual(way[-1], (("k", "hc"), "e", ("k", "hd")))

    def test_equal_books_with_long_tables(self):
        first, _ = chain_books(2, 3, 5)
        rules = first.rules
        # What stands in "or" is put the other way round, so the same answers come of it.
        rules["k"]["s"] = ((), ("or", *rules["k"]["s"][1][:0:-1]))
        table = self.told(first, Book(rules), ("k", "s"), layers(first, first, ("k", "s")))
        self.assertEqual(len(table), 31)

    def test_the_same_table_for_the_same_books(self):
        dice = random.Random(122)
        for _ in range(60):
            first, second = alike_books(dice, mixed=True)
            for place in first.places:
                table = equal_table(first, second, place)
                for _ in range(3):
                    self.assertEqual(equal_table(Book(shuffled(dice, first.rules)), Book(shuffled(dice, second.rules)), place), table)

    def test_random_books(self):
        dice = random.Random(123)
        sizes = {}
        for at in range(110):
            first, second = alike_books(dice, kinds=1 + at % 2, relations=2 + at % 4, mixed=at % 5 == 0)
            for place in first.places:
                way = parting_way(first, second, place)
                found = expected_layers(first, second, place)
                self.told(first, second, place, found)
                self.check_short_ways(first, second, place, 3 if way is None else min(3, len(way) - 1))
                sizes[way and len(way)] = sizes.get(way and len(way), 0) + 1
        self.assertTrue(all(sizes.get(many, 0) > 10 for many in (None, 1, 2, 3)), sizes)

    def check_short_ways(self, first, second, place, most):
        for length in range(1, most + 1):
            for way in all_ways(first, place, length):
                self.assertIs(is_way(first, place, way), True)
                self.assertIs(answer_by(first, place, way), answer_by(second, place, way))

    def test_answers_by_ways(self):
        """What the tests take for the answer by a way is the answer by the store of its rows."""
        dice = random.Random(124)
        for _ in range(20):
            first, second = alike_books(dice)
            for place in first.places[:2]:
                for length in (1, 2, 3):
                    ways = list(all_ways(first, place, length))
                    for way in dice.sample(ways, min(4, len(ways))):
                        for book in (first, second):
                            expected = (way[0][0], place[1]) in expected_stands(Store(book, rows=way), way[-1][2])
                            self.assertIs(answer_by(book, place, way), expected)


class TestTables(unittest.TestCase):
    ONE = Book({"k": {"l": (K, None), "e": (K, ROWS), "r": (K, ("or", ROWS, ("via", "l", "r"))), "s": ((), ("or", ("same", "r"), ("same", "e")))}})
    TWO = Book({"k": {"l": (K, None), "e": (K, ROWS), "r": (K, ("or", ROWS, ("via", "l", "r"))), "s": ((), ("or", ("same", "e"), ("same", "r"), ("via", "l", "r")))}})
    PLACE = ("k", "s")

    def told(self, value, expected, place=PLACE):
        before = repr(value)
        self.assertIs(is_table(self.ONE, self.TWO, place, value), expected, value)
        self.assertIs(expected_table(self.ONE, self.TWO, place, value), expected)
        self.assertEqual(repr(value), before)

    def test_tables(self):
        s, r, e, none = [("k", names, names) for names in (("s",), ("r",), ("e",), ())]
        for value, expected in (
            ([s, r], True), ([r, s], True), ([s, r, e], True), ([s, e, r, none], True), ([s], False), ([r], False), ([], False),
            ([s, r, r], False), ([s, r, s], False), ((s, r), False), ({s: 1, r: 2}, False), ([s, list(r)], False), ([s, r, None], False),
            ([s, r, ("k", ("r",), ("e",))], False), ([s, r, ("k", ("e", "r"), ("s",))], True), ([s, r, ("k", ("r", "s"), ("e", "s"))], True),
            ([s, r, ("k", ("s", "r"), ("s",))], False), ([s, r, ("k", ("s", "s"), ("s",))], False), ([s, r, ("k", ("l",), ("l",))], False),
            ([s, r, ("k", ["r"], ("r",))], False), ([s, r, ("k", ("r",), ["r"])], False), ([s, r, ("k", ("z",), ("z",))], False),
            ([s, r, ("j", (), ())], False), ([s, r, ("k", ())], False), ([s, r, ("k", (), (), ())], False), ([s, r, (("k",), (), ())], False),
            ([s, r, ("k", (1,), (1,))], False), ([s, r, ("k", "r", "r")], False), ([s, r, ("k", (True,), ())], False), ([[s, r]], False),
            ([s, ("k", ("r",), ())], False),
        ):
            self.told(value, expected)
        self.told([r], True, ("k", "r"))
        self.told([e], True, ("k", "e"))
        self.told([s, r], True, ("k", "r"))

    def test_any_value(self):
        s, r = ("k", ("s",), ("s",)), ("k", ("r",), ("r",))
        for value in [*odd_values(), *deep_values(), self.ONE, Store(self.ONE), iter([s, r])]:
            for around in (value, [value], [s, r, value], [value, s, r], [s, r, (value, (), ())], [s, r, ("k", value, ("r",))],
                           [s, r, ("k", ("r",), value)], [s, r, ("k", (value,), ("r",))], [s, r, ("k", ("r",), ("r", value))], (s, r, value)):
                self.assertIs(is_table(self.ONE, self.TWO, self.PLACE, around), False)

    def test_random_values(self):
        dice = random.Random(125)
        seen = {True: 0, False: 0}
        for _ in range(150):
            first, second = alike_books(dice, mixed=dice.random() < 0.5, relations=3)
            pool = [(kind, some, some) for kind in first.kinds for some in ((), ("k",), ("l",), ("k", "l"), ("l", "m"))]
            for place in first.places:
                table = equal_table(first, second, place) or [triple for layer in layers(first, second, place) for triple in layer]
                for _ in range(6):
                    value = list(table)
                    dice.shuffle(value)
                    way = dice.random()
                    if way < 0.3:
                        value = list(changed_paper(dice, tuple(value), [*pool, *pieces(tuple(value))]) or [])
                    elif way < 0.5:
                        value.append(dice.choice(pool))
                    elif way < 0.7:
                        del value[dice.randrange(len(value))]
                    expected = expected_table(first, second, place, value)
                    self.assertIs(is_table(first, second, place, value), expected, value)
                    seen[expected] += 1
                    if expected:
                        self.assertIs(parting_way(first, second, place), None)
        self.assertTrue(min(seen.values()) > 100, seen)


class TestConventions(unittest.TestCase):
    def test_arguments_by_name(self):
        self.assertEqual(argument_names(are_alike), ["first", "second"])
        for function in (parting_way, equal_table, layers):
            self.assertEqual(argument_names(function), ["first", "second", "place"])
        self.assertEqual(argument_names(is_table), ["first", "second", "place", "value"])
        one, two = Book({"k": {"r": (K, ROWS)}}), Book({"k": {"r": (K, ("or", ROWS, ROWS))}})
        self.assertIs(are_alike(second=two, first=one), True)
        self.assertIs(parting_way(place=("k", "r"), second=two, first=one), None)
        self.assertEqual(equal_table(place=("k", "r"), second=two, first=one), [("k", ("r",), ("r",))])
        self.assertEqual(layers(place=("k", "r"), second=two, first=one), [[("k", ("r",), ("r",))]])
        self.assertIs(is_table(value=[("k", ("r",), ("r",))], place=("k", "r"), second=two, first=one), True)
        for function in (are_alike, parting_way, equal_table, layers, is_table):
            self.assertEqual(function.__module__, compare.__name__)

    def test_what_is_returned_belongs_to_the_caller(self):
        first, second = chain_books(2)
        for function, one, two in ((parting_way, first, second), (layers, first, second), (equal_table, first, first)):
            expected = repr(function(one, two, ("k", "s")))
            for inner in function(one, two, ("k", "s")):
                if isinstance(inner, list):
                    inner.clear()
            function(one, two, ("k", "s")).clear()
            self.assertEqual(repr(function(one, two, ("k", "s"))), expected)

    def test_rings_do_not_matter(self):
        """Random rules without "and" and "but" are sound, so each two of them with the same names can be compared."""
        dice = random.Random(126)
        for _ in range(40):
            rules = random_rules(dice, words=("rows", "same", "via", "or"))
            self.assertIsNone(find_ring(rules))
            book = Book(rules)
            for place in book.places:
                self.assertIs(parting_way(book, Book(shuffled(dice, rules)), place), None)

    def test_example(self):
        one = read_book("kind doc\nlink parent allows doc\nrelation viewer allows user = ( rows or viewer via parent )\nkind user")
        two = read_book("kind doc\nlink parent allows doc\nrelation viewer allows user = rows\nkind user")
        self.assertEqual(parting_way(one, two, ("doc", "viewer")), [
            (("doc", "a"), "parent", ("doc", "b")), (("doc", "b"), "viewer", ("user", "c"))])
        self.assertEqual(two.rules["doc"]["viewer"], (USER, ROWS))


if __name__ == "__main__":
    unittest.main()
