"""Objects, persons, critical rows and effects ([2], [8], [13])."""

import random
import unittest

from oracle import all_pairs, expected_stands, places_of
from samples import (
    NAMES, ROWS, USER, doubling_store, mixed_stores, random_stores, refusing_chain, right_rows, row, rows, sample_store,
    thing,
)
from sharerules import lists
from sharerules.books import Book
from sharerules.errors import BadQuestion, BadRow, TakenRow, TooMany, UnknownRow
from sharerules.grants import granted, height, may
from sharerules.lists import critical, effects, objects_for, persons_for
from sharerules.store import Store
from values import argument_names, deep_values, odd_values

ANN = ("user", "ann")


def things(text):
    return [thing(word) for word in text.split()]


def persons_in(store):
    return sorted({one[2] for one in store.rows if len(one[2]) == 2})


def state(store):
    return [store.version, store.rows, [store.rows_at(at) for at in range(store.version + 1)], store.book.rules]


def expected_critical(store, question, person):
    def answer(given):
        return question in expected_stands(Store(store.book, rows=given), person, [question[0]])

    now = answer(store.rows)
    return [gone for gone in store.rows if answer([one for one in store.rows if one != gone]) != now]


def expected_effects(store, add, remove):
    other = Store(store.book, rows=[one for one in store.rows if one not in remove] + list(add))
    places = places_of(store.book.rules)
    gained, lost = [], []
    for person in sorted({*persons_in(store), *persons_in(other)}):
        before, after = expected_stands(store, person), expected_stands(other, person)
        for first in sorted({one[0] for one in [*store.rows, *other.rows]}):
            for relation in [name for kind, name in places if kind == first[0]]:
                if ((first, relation) in before) != ((first, relation) in after):
                    (gained if (first, relation) in after else lost).append((first, relation, person))
    return (sorted(gained), sorted(lost))


class TestObjects(unittest.TestCase):
    def test_objects(self):
        store = sample_store("doc:b owner user:ann", "doc:a parent folder:f", "folder:f viewer user:ann", "doc:c parent doc:b",
                             "doc:d owner user:bob", "doc:e parent doc:x", "folder:g parent folder:f")
        self.assertEqual(objects_for(store, "doc", "viewer", ANN), things("doc:a doc:b doc:c"))
        self.assertEqual(objects_for(store, "doc", "owner", ANN), things("doc:b"))
        self.assertEqual(objects_for(store, "folder", "viewer", ANN), things("folder:f folder:g"))
        self.assertEqual(objects_for(store, "group", "member", ANN), [])
        self.assertEqual(objects_for(store, "doc", "viewer", ("no", "body")), [])
        store.write(add=rows("doc:b banned user:ann"))
        self.assertEqual(objects_for(store, "doc", "viewer", ANN), things("doc:a"))

    def test_persons(self):
        store = sample_store("doc:a owner user:cid", "doc:a editor group:g#member", "group:g member user:ann",
                             "group:h member user:bob", "doc:a banned user:cid", "doc:a parent doc:b", "group:g member group:h#member")
        self.assertEqual(persons_for(store, ("doc", "a"), "editor", "user"), things("user:ann user:bob user:cid"))
        self.assertEqual(persons_for(store, ("doc", "a"), "viewer", "user"), things("user:ann user:bob"))
        self.assertEqual(persons_for(store, ("doc", "z"), "viewer", "user"), [])
        for kind in ("doc", "group", "nobody", "or"):
            self.assertEqual(persons_for(store, ("doc", "a"), "viewer", kind), [])

    def test_persons_of_kinds_with_relations(self):
        book = Book({"k": {"l": ((("k",),), None), "r": ((("k",), ("k", "r")), ("or", ROWS, ("via", "l", "r")))}})
        store = Store(book, rows=rows("k:a r k:b", "k:b r k:c#r", "k:c r k:a", "k:d l k:a", "k:e r k:d#r", "k:a l k:z"))
        self.assertEqual(persons_for(store, ("k", "a"), "r", "k"), things("k:b"))
        self.assertEqual(persons_for(store, ("k", "b"), "r", "k"), things("k:a"))
        self.assertEqual(persons_for(store, ("k", "e"), "r", "k"), things("k:b"))
        self.assertEqual(objects_for(store, "k", "r", ("k", "b")), things("k:a k:d k:e"))

    def test_random_stores(self):
        for store in [*random_stores(61, 80), *mixed_stores(62, 15)]:
            before = state(store)
            stands = {person: expected_stands(store, person) for person in [*persons_in(store), ("user", "no"), ("a", "new")]}
            places = places_of(store.book.rules)
            firsts = sorted({one[0] for one in store.rows})
            for kind, relation in places:
                for person in stands:
                    expected = [first for first in firsts if first[0] == kind and (first, relation) in stands[person]]
                    self.assertEqual(objects_for(store, kind, relation, person), expected)
            for first, relation in all_pairs(store, [(kind, "new") for kind in store.book.kinds]):
                for kind in [*store.book.kinds, "user", "no"]:
                    expected = [p for p in persons_in(store) if p[0] == kind and (first, relation) in stands[p]]
                    self.assertEqual(persons_for(store, first, relation, kind), expected)
            self.assertEqual(state(store), before)


class TestCritical(unittest.TestCase):
    def told(self, store, question, *texts, person=ANN):
        first, relation = question.split(" ")
        before = state(store)
        self.assertEqual(critical(store, thing(first), relation, person), sorted(rows(*texts)))
        self.assertEqual(state(store), before)

    def test_yes(self):
        store = sample_store("doc:a parent folder:f", "folder:f viewer group:g#member", "group:g member user:ann", "doc:b owner user:ann")
        self.told(store, "doc:a viewer", "doc:a parent folder:f", "folder:f viewer group:g#member", "group:g member user:ann")
        self.told(store, "folder:f viewer", "folder:f viewer group:g#member", "group:g member user:ann")
        store.write(add=rows("doc:a parent doc:b"))
        self.told(store, "doc:a viewer")
        store.write(add=rows("doc:b banned user:ann", "doc:b parent folder:f"))
        self.told(store, "doc:a viewer", "doc:a parent folder:f", "folder:f viewer group:g#member", "group:g member user:ann")

    def test_no(self):
        store = sample_store("doc:a owner user:ann", "doc:a banned group:g#member", "group:g member user:ann")
        self.told(store, "doc:a viewer", "doc:a banned group:g#member", "group:g member user:ann")
        store.write(add=rows("doc:a banned user:ann"))
        self.told(store, "doc:a viewer")
        self.told(store, "doc:a both")
        self.told(store, "doc:z viewer")

    def test_levels(self):
        every = [(("k", "x"), NAMES[at], ("k", "p")) for at in range(20)]
        store = Store(Book(refusing_chain(20)), rows=every)
        for at in range(20):
            # Where all rows stand, every other one tells somebody who does not stand there anyway.
            found = critical(store, ("k", "x"), NAMES[at], ("k", "p"))
            self.assertEqual(found, [every[low] for low in range(at + 1) if low % 2 == 0])

    def test_random_stores(self):
        seen = {True: 0, False: 0}
        dice = random.Random(63)
        for store in [*random_stores(64, 50), *mixed_stores(65, 20)]:
            before = state(store)
            every = [(question, person) for question in all_pairs(store) for person in persons_in(store)]
            dice.shuffle(every)
            hanging = [one for one in every[5:60] if critical(store, *one[0], one[1]) and not may(store, *one[0], one[1])]
            for question, person in every[:5] + hanging[:5]:
                found = critical(store, *question, person)
                self.assertEqual(found, expected_critical(store, question, person))
                seen[may(store, *question, person)] += len(found)
                found.clear()
            self.assertEqual(state(store), before)
        self.assertTrue(all(many > 20 for many in seen.values()), seen)

    def test_a_full_store(self):
        names = [first + last for first in NAMES[:10] for last in NAMES[:10]]
        texts = [f"folder:{names[at]} parent folder:{names[at + 1]}" for at in range(99)]
        store = sample_store(*texts, f"folder:{names[99]} viewer user:ann")
        self.assertEqual(critical(store, ("folder", "aa"), "viewer", ANN), store.rows)
        self.assertEqual(critical(store, ("folder", "aa"), "viewer", ("user", "bob")), [])


class TestEffects(unittest.TestCase):
    def test_a_link(self):
        store = sample_store("folder:f viewer user:ann", "doc:a parent folder:g", "folder:g viewer user:bob", "doc:b banned user:ann")
        self.assertEqual(effects(store, add=rows("doc:a parent folder:f")), ([(("doc", "a"), "viewer", ANN)], []))
        self.assertEqual(effects(store, remove=rows("doc:a parent folder:g")), ([], [(("doc", "a"), "viewer", ("user", "bob"))]))
        self.assertEqual(effects(store), ([], []))
        self.assertEqual(effects(store, add=rows("doc:b parent folder:f")), ([], []))

    def test_both_lists_and_new_objects_and_persons(self):
        store = sample_store("doc:a owner user:ann", "doc:a stranger user:bob")
        told = effects(store, add=rows("doc:a banned user:ann", "doc:b owner user:cid", "doc:a stranger user:ann"), remove=rows("doc:a stranger user:bob"))
        self.assertEqual(told, (
            [(("doc", "a"), "banned", ANN), (("doc", "a"), "stranger", ANN)] + [
                (("doc", "b"), relation, ("user", "cid")) for relation in ("editor", "owner", "viewer")],
            [(("doc", "a"), "stranger", ("user", "bob")), (("doc", "a"), "viewer", ANN)]))
        self.assertEqual(effects(store, remove=store.rows)[1], [
            (("doc", "a"), relation, ANN) for relation in ("editor", "owner")] + [
            (("doc", "a"), "stranger", ("user", "bob")), (("doc", "a"), "viewer", ANN)])
        self.assertIs(type(told), tuple)
        self.assertEqual([type(one) for one in told], [list, list])

    def test_persons_that_no_row_tells(self):
        store = sample_store("doc:a owner user:ann", "doc:a banned group:g#member")
        # Nobody is a member of the group, and links have subjects, too.
        told = effects(store, add=rows("doc:b parent doc:a", "doc:b parent folder:f"))
        self.assertEqual(told, ([(("doc", "b"), "viewer", ANN)], []))

    def test_random_stores(self):
        dice = random.Random(66)
        many = [0, 0]
        for store in [*random_stores(67, 60), *mixed_stores(68, 20)]:
            free = [one for one in right_rows(store.book, ("p", "q", "x", "y", "z", "new")) if one not in store]
            for _ in range(3):
                add = dice.sample(free, min(len(free), dice.randint(0, 3)))
                remove = dice.sample(store.rows, min(len(store), dice.randint(0, 3)))
                before = state(store)
                told = effects(store, add=tuple(add), remove=remove)
                self.assertEqual(told, expected_effects(store, add, remove))
                self.assertEqual(state(store), before)
                many = [many[0] + len(told[0]), many[1] + len(told[1])]
                self.check_write(store, add, remove, told)
                told[0].clear()
        self.assertTrue(min(many) > 50, many)

    def check_write(self, store, add, remove, told):
        """The write changes just these answers, and going back turns them about."""
        other = store.at(store.version)
        persons = {*persons_in(store), ("user", "no")}
        before = {(*pair, person) for person in {*persons, *[p for p in [one[2] for one in add] if len(p) == 2]}
                  for pair in granted(store, person)}
        other.write(add=add, remove=remove)
        after = {(*pair, person) for person in {*persons, *persons_in(other)} for pair in granted(other, person)}
        self.assertEqual((sorted(after - before), sorted(before - after)), told)
        self.assertEqual(effects(other, add=remove, remove=add), (told[1], told[0]))

    def test_errors_are_those_of_the_write(self):
        store = sample_store("doc:a owner user:ann", "doc:a parent folder:f")
        there, new, wrong = row("doc:a owner user:ann"), row("doc:b owner user:ann"), row("doc:a owner doc:a")
        many = [row(f"doc:{a}{b} owner user:ann") for a in NAMES[:11] for b in NAMES[:10]]
        for error, told, expected in (
            (BadRow, {"add": [new, wrong, there]}, wrong), (BadRow, {"add": [there], "remove": [wrong]}, wrong),
            (TakenRow, {"add": [new, there], "remove": [new]}, there), (TakenRow, {"add": [new, tuple(list(new))]}, new),
            (UnknownRow, {"remove": [there, new]}, new), (UnknownRow, {"add": [new], "remove": [new]}, new),
            (UnknownRow, {"remove": [there, there]}, there), (TooMany, {"add": many[:99]}, 101), (TooMany, {"add": many}, 112),
        ):
            before = state(store)
            with self.assertRaises(error) as caught:
                effects(store, **told)
            self.assertIs(type(caught.exception), error)
            self.assertEqual(next(iter(vars(caught.exception).values())), expected)
            with self.assertRaises(error):
                store.write(**told)
            self.assertEqual(state(store), before)
        self.assertEqual(len(effects(store, add=many[:98])[0]), 3 * 98)
        for value in [*odd_values(), *deep_values(), store]:
            for told in ({"add": [value]}, {"remove": (value,)}, {"add": [new, value], "remove": [new]}):
                with self.assertRaises(BadRow) as caught:
                    effects(store, **told)
                self.assertIs(caught.exception.value, value)
        self.assertEqual(state(store), before)


class TestLargePapers(unittest.TestCase):
    def test_answers_and_lists_where_papers_are_too_large(self):
        store = doubling_store(40)
        p, first = ("k", "p"), ("k", "aa")
        self.assertEqual([may(store, first, "r", p), may(store, first, "no", p), height(store, first, "r", p)], [True, False, 41])
        self.assertEqual(len(objects_for(store, "k", "r", p)), 41)
        self.assertEqual(persons_for(store, first, "r", "k"), [p])
        self.assertEqual(critical(store, first, "r", p), [one for one in store.rows if one[1] != "no"])
        self.assertEqual(critical(store, first, "no", p), [one for one in store.rows if one[1] != "no"])
        gone = row("k:ba l k:bb")
        gained, lost = effects(store, remove=[gone])
        self.assertEqual([gained, len(lost)], [[(first, "no", p)], 11])


class TestBadQuestions(unittest.TestCase):
    STORE = sample_store("doc:a owner user:ann", "doc:a parent folder:x")

    def bad(self, function, *told):
        before = state(self.STORE)
        with self.assertRaises(BadQuestion) as caught:
            function(self.STORE, *told)
        self.assertIs(type(caught.exception), BadQuestion)
        self.assertIs(type(caught.exception.value), tuple)
        self.assertEqual(len(caught.exception.value), 3)
        for one, given in zip(caught.exception.value, told):
            self.assertIs(one, given)
        self.assertEqual(state(self.STORE), before)

    def test_wrong_parts(self):
        for kind in ("user", "nobody", "", "Doc", ("doc",), ("doc", "a"), ["doc"]):
            self.bad(objects_for, kind, "owner", ANN)
        for relation in ("parent", "member", "nothing", "", ("owner",), ("doc", "owner")):
            self.bad(objects_for, "doc", relation, ANN)
            self.bad(persons_for, ("doc", "a"), relation, "user")
            self.bad(critical, ("doc", "a"), relation, ANN)
        for person in (("user",), ("group", "g", "member"), ["user", "ann"], "user:ann", ("user", "Ann"), "ann"):
            self.bad(objects_for, "doc", "owner", person)
            self.bad(critical, ("doc", "a"), "owner", person)
        for first in ("doc", ("doc",), ("user", "ann"), ["doc", "a"], ("doc", "a", "owner"), ("doc", "A"), ("no", "a")):
            self.bad(persons_for, first, "owner", "user")
            self.bad(critical, first, "owner", ANN)
        for kind in ("", "User", "abcdefghi", ("user",), ["user"], ("user", "ann")):
            self.bad(persons_for, ("doc", "a"), "owner", kind)

    def test_any_other_value(self):
        for value in [*odd_values(), *deep_values(), self.STORE, self.STORE.book, iter([ANN])]:
            for told in ((value, "owner", ANN), ("doc", value, ANN), ("doc", "owner", value), (value, value, value),
                         ("doc", "owner", ("user", value)), ("doc", "owner", (value, "ann"))):
                if told != ("doc", "owner", ("user", "a")) and told != ("doc", "owner", ("a", "ann")):
                    self.bad(objects_for, *told)
            for told in ((value, "owner", "user"), (("doc", "a"), value, "user"), (("doc", "a"), "owner", value),
                         (value, value, value), (("doc", value), "owner", "user")):
                if value != "a":
                    self.bad(persons_for, *told)
            for told in ((value, "owner", ANN), (("doc", "a"), value, ANN), (("doc", "a"), "owner", value), (value, value, value)):
                self.bad(critical, *told)

    def test_for_nothing_else(self):
        for kind in ("doc", "folder", "group", "user", "nobody", "or"):
            for relation in ("owner", "viewer", "member", "parent", "or", "no"):
                if (kind, relation) in self.STORE.book:
                    self.assertIs(type(objects_for(self.STORE, kind, relation, ("or", "or"))), list)
                    self.assertIs(type(critical(self.STORE, (kind, "z"), relation, ("or", "or"))), list)
                    self.assertIs(type(persons_for(self.STORE, (kind, "z"), relation, "or")), list)
                else:
                    self.bad(objects_for, kind, relation, ANN)
                    self.bad(critical, (kind, "a"), relation, ANN)
                    self.bad(persons_for, (kind, "a"), relation, "user")


class TestConventions(unittest.TestCase):
    def test_arguments_by_name(self):
        store = sample_store("doc:a owner user:ann")
        names = {objects_for: ["store", "kind", "relation", "person"], persons_for: ["store", "thing", "relation", "kind"],
                 critical: ["store", "thing", "relation", "person"], effects: ["store", "add", "remove"]}
        for function, expected in names.items():
            self.assertEqual(argument_names(function), expected)
            self.assertEqual(function.__module__, lists.__name__)
        self.assertEqual(objects_for(person=ANN, relation="owner", kind="doc", store=store), [("doc", "a")])
        self.assertEqual(persons_for(kind="user", relation="owner", thing=("doc", "a"), store=store), [ANN])
        self.assertEqual(critical(person=ANN, relation="owner", thing=("doc", "a"), store=store), store.rows)
        self.assertEqual(effects(remove=store.rows, store=store, add=()), effects(store, remove=store.rows))

    def test_what_is_returned_belongs_to_the_caller(self):
        store = sample_store("doc:a owner user:ann")
        for function, told in ((objects_for, ("doc", "owner", ANN)), (persons_for, (("doc", "a"), "owner", "user")),
                               (critical, (("doc", "a"), "owner", ANN))):
            first = function(store, *told)
            self.assertEqual(len(first), 1)
            first.clear()
            self.assertEqual(len(function(store, *told)), 1)
        self.assertEqual(store.rows, rows("doc:a owner user:ann"))

    def test_example(self):
        book = Book({"user": {}, "doc": {
            "parent": ((("doc",),), None), "viewer": (USER, ("or", ROWS, ("via", "parent", "viewer")))}})
        store = Store(book, rows=rows("doc:a parent doc:b", "doc:b viewer user:ann"))
        self.assertEqual(objects_for(store, "doc", "viewer", ANN), [("doc", "a"), ("doc", "b")])


if __name__ == "__main__":
    unittest.main()
