"""Answers and least heights ([2], [3], [7], [8], [9], [11], [13])."""

import itertools
import random
import unittest

from oracle import all_pairs, expected_heights, expected_stands
from samples import (
    NAMES, ROWS, STEADY_WORDS, USER, random_rules, random_stores, refusing_chain, right_rows, row, rows, sample_store,
    shuffled, thing,
)
from sharerules import grants
from sharerules.books import Book, find_ring
from sharerules.errors import BadQuestion
from sharerules.grants import granted, height, may
from sharerules.store import Store
from values import argument_names, deep_values, odd_values

ANN = ("user", "ann")


def persons_of(store):
    return sorted({row[2][:2] for row in store.rows} | {row[0] for row in store.rows} | {("user", "no"), ("a", "x")})


def all_heights(store, person, more=()):
    """What height tells for every pair, those with None left out."""
    found = {pair: height(store, *pair, person) for pair in all_pairs(store, more)}
    return {pair: least for pair, least in found.items() if least is not None}


class Case(unittest.TestCase):
    def told(self, store, question, least):
        """The height of "doc:a viewer ann" and the like, and the answer that goes with it."""
        first, relation, name = question.split(" ")
        person = ("user", name)
        self.assertEqual(height(store, thing(first), relation, person), least)
        self.assertIs(may(store, thing(first), relation, person), least is not None)


class TestSample(Case):
    def test_rows(self):
        store = sample_store("doc:a owner user:ann")
        self.told(store, "doc:a owner ann", 1)
        self.told(store, "doc:a owner bob", None)
        self.told(store, "doc:b owner ann", None)
        self.told(store, "doc:a banned ann", None)

    def test_same_and_or(self):
        store = sample_store("doc:a owner user:ann", "doc:a editor user:bob")
        self.told(store, "doc:a editor ann", 2)
        self.told(store, "doc:a editor bob", 1)
        self.told(store, "doc:a viewer ann", 3)
        self.told(store, "doc:a viewer bob", 2)

    def test_groups_in_groups(self):
        texts = [f"group:{NAMES[at]} member group:{NAMES[at + 1]}#member" for at in range(20)]
        store = sample_store("folder:f viewer group:a#member", "group:u member user:ann", *texts)
        self.told(store, "folder:f viewer ann", 22)
        for at in range(21):
            self.told(store, f"group:{NAMES[at]} member ann", 21 - at)
        self.told(store, "folder:f viewer bob", None)
        # A shorter way.
        store.write(add=rows("group:c member user:ann"))
        self.told(store, "folder:f viewer ann", 4)
        self.told(store, "group:d member ann", 18)

    def test_a_group_itself_is_no_member(self):
        store = sample_store("folder:f viewer group:a#member", "group:a member group:b#member")
        self.assertIs(may(store, ("folder", "f"), "viewer", ("group", "a")), False)
        self.assertIs(may(store, ("folder", "f"), "viewer", ("group", "b")), False)

    def test_folders_in_folders(self):
        texts = [f"folder:{NAMES[at]} parent folder:{NAMES[at + 1]}" for at in range(10)]
        store = sample_store("doc:d parent folder:a", "folder:k viewer user:ann", "folder:e viewer group:g#member",
                             "group:g member user:bob", *texts)
        self.told(store, "doc:d viewer ann", 12)
        self.told(store, "doc:d viewer bob", 7)
        self.told(store, "folder:f viewer bob", None)
        self.told(store, "folder:k viewer ann", 1)

    def test_rings_of_rows(self):
        store = sample_store(
            "group:a member group:b#member", "group:b member group:c#member", "group:c member group:a#member",
            "folder:x parent folder:y", "folder:y parent folder:x", "folder:y viewer group:b#member", "group:s member group:s#member")
        for question in ("group:a member ann", "folder:x viewer ann", "folder:y viewer ann", "group:s member ann"):
            self.told(store, question, None)
        store.write(add=rows("group:a member user:ann"))
        self.told(store, "group:a member ann", 1)
        self.told(store, "group:c member ann", 2)
        self.told(store, "group:b member ann", 3)
        self.told(store, "folder:y viewer ann", 4)
        self.told(store, "folder:x viewer ann", 5)
        self.told(store, "group:s member ann", None)

    def test_but(self):
        store = sample_store("doc:a owner user:ann", "doc:a banned group:g#member", "doc:a stranger user:ann")
        self.told(store, "doc:a viewer ann", 3)
        self.told(store, "doc:a stranger ann", None)
        store.write(add=rows("group:g member user:ann"))
        self.told(store, "doc:a viewer ann", None)
        self.told(store, "doc:a editor ann", 2)
        self.told(store, "doc:a banned ann", 2)
        self.told(store, "doc:a stranger ann", 1)

    def test_and(self):
        store = sample_store("doc:a owner user:ann", "doc:a both user:ann")
        # The greatest height of the three parts: that of the viewer, who stands there by two steps.
        self.told(store, "doc:a both ann", 4)
        store.write(add=rows("doc:a viewer user:ann"))
        self.told(store, "doc:a both ann", 3)
        store.write(add=rows("doc:a editor user:ann"))
        self.told(store, "doc:a both ann", 2)
        store.write(remove=rows("doc:a both user:ann"))
        self.told(store, "doc:a both ann", None)

    def test_an_object_of_the_rows_is_no_other(self):
        store = sample_store("doc:a viewer user:ann", "doc:b parent doc:a")
        for question in ("doc:c viewer ann", "folder:a viewer ann", "group:ann member ann", "doc:ann viewer ann"):
            self.told(store, question, None)
        self.told(store, "doc:b viewer ann", 2)

    def test_any_object_is_a_person(self):
        store = sample_store("doc:b parent doc:a", "doc:a viewer user:ann")
        for person in (("doc", "a"), ("nobody", "x"), ("or", "rows"), ("user", "a"), ("group", "ann")):
            self.assertIs(may(store, ("doc", "b"), "viewer", person), False)
            self.assertEqual(granted(store, person), [])
        book = Book({"doc": {"up": ((("doc",),), None), "r": ((("doc",), ("doc", "r")), ROWS)}})
        store = Store(book, rows=rows("doc:a r doc:a", "doc:b r doc:a#r", "doc:b up doc:c"))
        self.assertEqual(granted(store, ("doc", "a")), [(("doc", "a"), "r"), (("doc", "b"), "r")])
        self.assertEqual(granted(store, ("doc", "c")), [])

    def test_a_link_to_kinds_without_the_relation(self):
        book = Book({
            "a": {"up": ((("a",), ("b",), ("c",)), None), "r": ((("a",),), ("or", ROWS, ("via", "up", "s"))),
                  "s": ((), ("via", "up", "r"))},
            "b": {"s": ((("a",),), ROWS), "r": ((("a",),), None)},
            "c": {},
        })
        store = Store(book, rows=rows(
            "a:x up a:y", "a:x up b:x", "a:x up c:x", "a:y up b:y", "a:y up c:y", "b:y s a:p", "b:x r a:p", "a:z up a:x"))
        expected = {(("b", "y"), "s"): 1, (("a", "y"), "r"): 2, (("a", "x"), "s"): 3, (("a", "z"), "r"): 4}
        self.assertEqual(all_heights(store, ("a", "p")), expected)
        store.write(add=rows("b:x s a:p"))
        expected = {**expected, (("b", "x"), "s"): 1, (("a", "x"), "r"): 2, (("a", "z"), "s"): 3}
        self.assertEqual(all_heights(store, ("a", "p")), expected)


class TestLevels(Case):
    def test_twenty_levels(self):
        for many in range(1, 21):
            store = Store(Book(refusing_chain(many)), rows=[
                (("k", "x"), NAMES[at], ("k", "p")) for at in range(many)])
            stands = [may(store, ("k", "x"), NAMES[at], ("k", "p")) for at in range(many)]
            self.assertEqual(stands, [at % 2 == 0 for at in range(many)])
            self.assertEqual(granted(store, ("k", "p")), [(("k", "x"), NAMES[at]) for at in range(0, many, 2)])

    def test_a_row_less_turns_those_above(self):
        every = [(("k", "x"), NAMES[at], ("k", "p")) for at in range(20)]
        for gone in range(20):
            store = Store(Book(refusing_chain(20)), rows=every[:gone] + every[gone + 1:])
            expected = []
            for at in range(20):
                expected.append(at != gone and not (at > 0 and expected[-1]))
            self.assertEqual([may(store, ("k", "x"), NAMES[at], ("k", "p")) for at in range(20)], expected)

    def test_high_reasons_of_low_levels(self):
        # The least height at the higher level stands far above the number of rounds that its own level needs.
        book = Book({"k": {
            "m": ((("k",), ("k", "m")), ROWS), "no": ((("k",),), ROWS), "r": ((), ("but", ("same", "m"), "no")),
            "s": ((("k",),), ("or", ("same", "r"), ("and", ROWS, ("same", "r")))),
        }})
        chain = [(("k", NAMES[at]), "m", ("k", NAMES[at + 1], "m")) for at in range(25)]
        store = Store(book, rows=chain + rows("k:z m k:p", "k:a s k:p", "k:b no k:p"))
        person = ("k", "p")
        self.assertEqual([height(store, ("k", "a"), r, person) for r in ("m", "no", "r", "s")], [26, None, 27, 28])
        self.assertEqual([height(store, ("k", "b"), r, person) for r in ("m", "no", "r", "s")], [25, 1, None, None])

    def test_a_lower_reason_that_is_found_later(self):
        def each(rules):
            for first in itertools.permutations(rules["q"][1:]):
                for last in itertools.permutations(rules["z"][1:]):
                    yield {**rules, "q": ("and", *first), "z": ("or", *last)}

        rules = {"q": ("and", ("same", "x"), ("same", "y"), ("same", "z")), "x": ROWS, "y": ("same", "x"),
                 "z": ("or", ("same", "y"), ("same", "w")), "w": ROWS}
        for names in itertools.permutations("qxyzw"):
            other = dict(zip("qxyzw", names))
            for told in each(rules):
                turned = {other[name]: self.renamed_rule(rule, other) for name, rule in told.items()}
                book = Book({"k": {name: ((("k",),) if rule == ROWS else (), rule) for name, rule in turned.items()}})
                store = Store(book, rows=[(("k", "a"), other[name], ("k", "p")) for name in "xw"])
                heights = [height(store, ("k", "a"), other[name], ("k", "p")) for name in "qxyzw"]
                self.assertEqual(heights, [3, 1, 2, 2, 1])

    def renamed_rule(self, rule, names):
        return TestOtherNames.renamed_rule(self, rule, names)

    def test_a_hundred_rows(self):
        names = [first + last for first in NAMES[:10] for last in NAMES[:10]]
        for order in (names, names[::-1]):
            chain = [f"folder:{order[at]} parent folder:{order[at + 1]}" for at in range(99)]
            store = sample_store(f"folder:{order[99]} viewer user:ann", *chain)
            self.assertEqual(len(store), 100)
            self.assertEqual([height(store, ("folder", name), "viewer", ANN) for name in order], list(range(100, 0, -1)))
            self.assertEqual(granted(store, ANN), [(("folder", name), "viewer") for name in names])

    def test_a_hundred_rows_and_ten_kinds_with_twenty_relations(self):
        kinds, places = NAMES[:10], [name for name in NAMES[:20] if name != "l"]
        pieces = [("via", "l", name) for name in places] + [("same", name) for name in places]
        allowed = tuple((kind,) for kind in kinds)
        table = {"l": (allowed, None), **{name: (allowed, ("or", ROWS, *pieces)) for name in places}}
        book = Book({kind: table for kind in kinds})
        chain = [((kinds[at % 10], "x" + NAMES[at // 10]), "l", (kinds[(at + 1) % 10], "x" + NAMES[(at + 1) // 10]))
                 for at in range(99)]
        store = Store(book, rows=chain + [(chain[-1][2], "a", ("a", "p"))])
        self.assertEqual(height(store, chain[0][0], "t", ("a", "p")), 100)
        self.assertEqual(height(store, chain[-1][2], "t", ("a", "p")), 2)
        self.assertEqual(len(granted(store, ("a", "p"))), 100 * 19)


class TestRandomStores(Case):
    def check(self, store):
        more = [(kind, "new") for kind in store.book.kinds]
        before = (store.version, store.rows, store.book.rules)
        for person in persons_of(store):
            expected = expected_heights(store, person, more)
            self.assertEqual(set(expected), expected_stands(store, person, more))
            things = {row[0] for row in store.rows}
            for pair in all_pairs(store, more):
                self.assertEqual(height(store, *pair, person), expected.get(pair), (store.book.rules, store.rows, pair))
                self.assertIs(may(store, *pair, person), pair in expected)
            found = granted(store, person)
            self.assertEqual(found, sorted(pair for pair in expected if pair[0] in things))
            self.assertIs(type(found), list)
            self.assertTrue(all(type(pair) is tuple and type(pair[0]) is tuple for pair in found))
            # Nobody stands anywhere at an object that is no object of rows.
            self.assertEqual(found, sorted(expected))
        self.assertEqual((store.version, store.rows, store.book.rules), before)

    def test_books_of_all_sorts(self):
        for store in random_stores(11, 120):
            self.check(store)

    def test_books_without_but(self):
        for store in random_stores(12, 40, words=STEADY_WORDS, many=18):
            self.check(store)

    def test_deep_rules_and_few_objects(self):
        for store in random_stores(13, 40, depth=5, names=("x", "y"), many=25):
            self.check(store)

    def test_many_rows_of_the_sample(self):
        dice = random.Random(17)
        book = sample_store().book
        every = [one for one in right_rows(book, NAMES[:7]) if one[2][0] != "user" or one[2][1] in "ab"]
        # Few rows that end ways, and many that lengthen them.
        ends = [one for one in every if one[2][0] == "user"]
        steps = [one for one in every if one[2][0] != "user"]
        most = 0
        for _ in range(12):
            store = Store(book, rows=dice.sample(ends, 12) + dice.sample(steps, 40))
            for person in (("user", "a"), ("user", "b")):
                expected = expected_heights(store, person)
                self.assertEqual(all_heights(store, person), expected)
                most = max([most, *expected.values()])
        self.assertGreater(most, 5)

    def test_heights_of_all_sorts_occur(self):
        found = set()
        for store in random_stores(14, 150, many=18):
            for person in persons_of(store):
                found |= set(all_heights(store, person).values())
        self.assertTrue({1, 2, 3, 4, 5} <= found)

    def test_versions(self):
        dice = random.Random(15)
        for store in random_stores(16, 30):
            kept = [{person: granted(store, person) for person in persons_of(store)}]
            for _ in range(4):
                store.write(remove=dice.sample(store.rows, len(store) // 3))
                kept.append({person: granted(store, person) for person in kept[0]})
            for version, told in enumerate(kept):
                other = store.at(version)
                self.assertEqual({person: granted(other, person) for person in told}, told)
            store.go_back(0)
            self.assertEqual({person: granted(store, person) for person in kept[0]}, kept[0])


class TestOtherNames(unittest.TestCase):
    def renamed_rule(self, rule, names):
        if rule is None or rule == ROWS:
            return rule
        if rule[0] in ("same", "via"):
            return (rule[0], *[names[name] for name in rule[1:]])
        if rule[0] == "but":
            return ("but", self.renamed_rule(rule[1], names), names[rule[2]])
        return (rule[0], *[self.renamed_rule(part, names) for part in rule[1:]])

    def renamed(self, rules, names):
        return {names[kind]: {
            names[relation]: (tuple(sorted(tuple(names[word] for word in item) for item in allowed)),
                              self.renamed_rule(rule, names))
            for relation, (allowed, rule) in table.items()} for kind, table in rules.items()}

    def test_names_do_not_matter(self):
        dice = random.Random(21)
        for store in random_stores(22, 60):
            letters = dice.sample(NAMES, len(NAMES))
            names = {name: letter + "q" for name, letter in zip(NAMES, letters)}
            names["user"], names["no"] = "user", "no"
            other = Store(Book(self.renamed(store.book.rules, names)), rows=[
                (self.named(first, names), names[relation], self.named(last, names)) for first, relation, last in store.rows])
            for person in persons_of(store):
                expected = {(self.named(first, names), names[relation]): least
                            for (first, relation), least in all_heights(store, person).items()}
                self.assertEqual(all_heights(other, self.named(person, names)), expected)

    def named(self, words, names):
        return tuple(names[word] for word in words)

    def test_names_of_rings_do_not_matter(self):
        dice = random.Random(23)
        for _ in range(100):
            rules = random_rules(dice)
            letters = dice.sample(NAMES, len(NAMES))
            names = {name: letter + "q" for name, letter in zip(NAMES, letters)}
            ring, other = find_ring(rules), find_ring(self.renamed(rules, names))
            self.assertEqual(ring and len(ring), other and len(other))


class TestOtherForms(unittest.TestCase):
    def turned(self, dice, rule):
        if rule is None or rule[0] not in ("or", "and", "but"):
            return rule
        if rule[0] == "but":
            return ("but", self.turned(dice, rule[1]), rule[2])
        inner = [self.turned(dice, part) for part in rule[1:]]
        dice.shuffle(inner)
        return (rule[0], *inner)

    def test_the_sequence_of_pieces_does_not_matter(self):
        dice = random.Random(24)
        for store in random_stores(25, 60):
            rules = {kind: {name: (allowed, self.turned(dice, rule)) for name, (allowed, rule) in table.items()}
                     for kind, table in shuffled(dice, store.book.rules).items()}
            self.assertIsNone(find_ring(rules))
            other = Store(Book(rules), rows=store.rows[::-1])
            for person in persons_of(store):
                self.assertEqual(all_heights(other, person), all_heights(store, person))

    def test_a_further_object_with_all_rows_of_one_object(self):
        for store in random_stores(26, 60):
            for old in sorted({first for first, _, _ in store.rows}):
                new = (old[0], "new")
                other = Store(store.book, rows=store.rows + [(new, *one[1:]) for one in store.rows if one[0] == old])
                for person in persons_of(store):
                    expected = all_heights(store, person)
                    more = {(new, relation): least for (first, relation), least in expected.items() if first == old}
                    self.assertEqual(all_heights(other, person), {**expected, **more})

    def test_a_further_person_told_wherever_one_is(self):
        for store in random_stores(27, 60):
            for old in sorted({last for _, _, last in store.rows if len(last) == 2}):
                new = (old[0], "new")
                other = Store(store.book, rows=store.rows + [(*one[:2], new) for one in store.rows if one[2] == old])
                for person in persons_of(store):
                    self.assertEqual(all_heights(other, person), all_heights(store, person))
                self.assertEqual(granted(other, new), granted(store, old))
                self.assertEqual(all_heights(other, new), all_heights(store, old))

    def test_a_new_group_put_between(self):
        store = sample_store(
            "doc:a parent folder:x", "folder:x viewer user:ann", "folder:x viewer group:g#member", "group:g member user:bob",
            "folder:y parent folder:x", "doc:a editor user:ann", "doc:b banned user:ann", "doc:b viewer user:ann")
        kinds = [("folder", "viewer"), ("doc", "editor"), ("doc", "banned"), ("group", "member")]
        for one in store.rows:
            if (one[0][0], one[1]) not in kinds:
                continue
            last = one[2]
            middle = [(*one[:2], ("group", "new", "member")), (("group", "new"), "member", last)]
            other = Store(store.book, rows=[old for old in store.rows if old != one] + middle)
            for person in persons_of(store):
                before, after = all_heights(store, person), all_heights(other, person)
                after.pop((("group", "new"), "member"), None)
                self.assertEqual(set(after), set(before))
                self.assertTrue(all(before[pair] <= after[pair] <= before[pair] + 1 for pair in before))
                self.assertEqual(after, {
                    pair: least for pair, least in expected_heights(other, person).items() if pair[0] != ("group", "new")})


class TestBadQuestions(Case):
    STORE = sample_store("doc:a owner user:ann", "doc:a parent folder:x")

    def bad(self, first, relation, person):
        before = (self.STORE.version, self.STORE.rows)
        for function in (may, height):
            with self.assertRaises(BadQuestion) as caught:
                function(self.STORE, first, relation, person)
            self.assertIs(type(caught.exception), BadQuestion)
            value = caught.exception.value
            self.assertIs(type(value), tuple)
            self.assertEqual(len(value), 3)
            for told, given in zip(value, (first, relation, person)):
                self.assertIs(told, given)
        self.assertEqual((self.STORE.version, self.STORE.rows), before)

    def test_wrong_parts(self):
        for first in (("doc",), ("doc", "a", "owner"), ["doc", "a"], "doc:a", ("doc", "A"), ("nobody", "a"), ("user", "ann"),
                      ("Doc", "a"), ("doc", ""), (("doc", "a"),), ("doc", ["a"])):
            self.bad(first, "owner", ANN)
        for relation in ("parent", "member", "nothing", "", "rows", "or", "Owner", ("owner",), ["owner"], ("doc", "owner")):
            self.bad(("doc", "a"), relation, ANN)
        for person in (("user",), ("group", "g", "member"), ["user", "ann"], "user:ann", ("user", "Ann"), ("", "ann"),
                       (ANN,), ("user", 1)):
            self.bad(("doc", "a"), "owner", person)

    def test_exactly_these(self):
        for first in (("doc", "a"), ("doc", "z"), ("folder", "x"), ("group", "a"), ("user", "a"), ("no", "a")):
            for relation in ("owner", "viewer", "member", "parent", "banned", "no"):
                for person in (ANN, ("no", "body"), ("doc", "a"), ("or", "or")):
                    if (first[0], relation) in self.STORE.book:
                        self.assertIsInstance(may(self.STORE, first, relation, person), bool)
                    else:
                        self.bad(first, relation, person)

    def test_any_other_value(self):
        for value in [*odd_values(), *deep_values(), self.STORE, self.STORE.book, iter([ANN])]:
            self.bad(value, "owner", ANN)
            self.bad(("doc", "a"), value, ANN)
            if value not in (("a", "b"),):
                self.bad(("doc", "a"), "owner", value)
            self.bad(value, value, value)
            self.bad(("doc", value), "owner", ANN)
            self.bad((value, "a"), "owner", ANN)
            self.bad(("doc", "a"), "owner", ("user", value) if value != "a" else value)


class TestConventions(Case):
    def test_arguments_by_name(self):
        names = {
            may: ["store", "thing", "relation", "person"], height: ["store", "thing", "relation", "person"],
            granted: ["store", "person"],
        }
        store = sample_store("doc:a owner user:ann")
        for function, expected in names.items():
            self.assertEqual(argument_names(function), expected)
            self.assertEqual(function.__module__, grants.__name__)
        self.assertIs(may(store=store, person=ANN, relation="owner", thing=("doc", "a")), True)
        self.assertEqual(height(store=store, person=ANN, relation="editor", thing=("doc", "a")), 2)
        self.assertEqual(len(granted(store=store, person=ANN)), 3)

    def test_what_is_returned_belongs_to_the_caller(self):
        store = sample_store("doc:a owner user:ann")
        granted(store, ANN).clear()
        self.assertEqual(granted(store, ANN), [(("doc", "a"), name) for name in ("editor", "owner", "viewer")])

    def test_example(self):
        book = Book({"user": {}, "doc": {
            "parent": ((("doc",),), None), "viewer": (USER, ("or", ROWS, ("via", "parent", "viewer")))}})
        store = Store(book, rows=rows("doc:a parent doc:b", "doc:b viewer user:ann"))
        self.assertEqual([may(store, ("doc", "a"), "viewer", ANN), height(store, ("doc", "a"), "viewer", ANN)], [True, 2])
        self.assertIs(row("doc:a parent doc:b") in store, True)


if __name__ == "__main__":
    unittest.main()
