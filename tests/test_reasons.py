"""The first reasons and the first counter-reasons ([1], [2], [8] to [13])."""

import random
import unittest

from oracle import all_pairs, expected_heights
from papers import FirstPapers, counters_in, height_of, parts_in, pieces
from samples import (
    NAMES, ROWS, STEADY_WORDS, USER, doubling_store, mixed_stores, random_stores, row, rows, sample_store, thing,
)
from sharerules import reasons
from sharerules.books import Book
from sharerules.checks import is_counter, is_reason, reason_height, reason_rows
from sharerules.errors import BadQuestion
from sharerules.grants import height, may
from sharerules.reasons import answer_with, first_counter, first_reason
from sharerules.store import Store
from values import argument_names, deep_values, odd_values

ANN = ("user", "ann")


def reason_of(text):
    return ("row", row(text))


def pair(text):
    first, relation = text.split(" ")
    return (thing(first), relation)


def pairs(*texts):
    return tuple(pair(text) for text in texts)


class Case(unittest.TestCase):
    def told(self, store, question, answer, paper, person=ANN):
        before = (store.version, store.rows)
        for _ in range(2):
            self.assertEqual(first_reason(store, *pair(question), person), paper if answer else None)
            self.assertEqual(first_counter(store, *pair(question), person), None if answer else paper)
            found = answer_with(store, *pair(question), person)
            self.assertEqual(found, (answer, paper))
            self.assertIs(type(found), tuple)
            self.assertIs(found[0], answer)
        self.assertEqual((store.version, store.rows), before)


class TestFirstReasons(Case):
    def test_row(self):
        store = sample_store("doc:a owner user:ann", "group:g member user:ann", "group:g member group:h#member",
                             "group:h member user:ann")
        self.told(store, "doc:a owner", True, reason_of("doc:a owner user:ann"))
        self.told(store, "group:g member", True, reason_of("group:g member user:ann"))

    def test_least_row_of_those_of_least_height(self):
        store = sample_store("group:g member group:a#member", "group:g member group:b#member", "group:g member group:c#member",
                             "group:g member group:d#member", "group:a member group:b#member", "group:c member user:ann",
                             "group:b member user:ann", "group:d member user:bob")
        self.told(store, "group:g member", True, ("group", row("group:g member group:b#member"), reason_of("group:b member user:ann")))
        store.write(add=rows("group:a member user:ann"))
        self.told(store, "group:g member", True, ("group", row("group:g member group:a#member"), reason_of("group:a member user:ann")))
        store.write(remove=rows("group:a member user:ann", "group:b member user:ann"))
        self.told(store, "group:g member", True, ("group", row("group:g member group:c#member"), reason_of("group:c member user:ann")))

    def test_least_link_of_those_of_least_height(self):
        store = sample_store("folder:g parent folder:a", "folder:g parent folder:b", "folder:g parent folder:c",
                             "folder:a parent folder:b", "folder:b viewer user:ann", "folder:c viewer user:ann",
                             "folder:g parent folder:d", "folder:d viewer user:bob")
        inner = ("or", 0, reason_of("folder:b viewer user:ann"))
        self.told(store, "folder:g viewer", True, ("or", 1, ("via", row("folder:g parent folder:b"), inner)))
        store.write(remove=rows("folder:b viewer user:ann"))
        inner = ("or", 0, reason_of("folder:c viewer user:ann"))
        self.told(store, "folder:g viewer", True, ("or", 1, ("via", row("folder:g parent folder:c"), inner)))

    def test_least_number_of_those_of_least_height(self):
        rules = {"k": {name: ((("k",),), ROWS) for name in "abc"}}
        for turned in (["a", "b", "c"], ["c", "b", "a"], ["b", "a", "c"]):
            parts = [("same", name) for name in turned]
            rules["k"]["r"] = ((("k",), ("k", "a")), ("or", ("and", ("same", "a"), ("same", "b")), *parts, ROWS, ("or", ROWS, *parts)))
            store = Store(Book(rules), rows=rows("k:x a k:p", "k:x b k:p"))
            number = min(turned.index("a"), turned.index("b"))
            # All parts have the height 2, so the first one is taken, in spite of its two reasons.
            both = ("and", ("same", reason_of("k:x a k:p")), ("same", reason_of("k:x b k:p")))
            self.told(store, "k:x r", True, ("or", 0, both), ("k", "p"))
            store.write(remove=rows("k:x a k:p"))
            number = 1 + turned.index("b")
            self.told(store, "k:x r", True, ("or", number, ("same", reason_of("k:x b k:p"))), ("k", "p"))
            store.write(add=rows("k:x r k:p"))
            self.told(store, "k:x r", True, ("or", 4, reason_of("k:x r k:p")), ("k", "p"))

    def test_or_in_or(self):
        rules = {"k": {"a": ((("k",),), ROWS), "r": ((("k",),), ("or", ("or", ("same", "a"), ("and", ROWS, ROWS)), ROWS))}}
        store = Store(Book(rules), rows=rows("k:x r k:p", "k:x a k:p"))
        part = reason_of("k:x r k:p")
        self.told(store, "k:x r", True, ("or", 0, ("or", 1, ("and", part, part))), ("k", "p"))

    def test_the_lowest_way_and_not_the_first_one(self):
        store = sample_store("doc:a owner user:ann", "doc:a editor group:g#member", "group:g member group:h#member",
                             "group:h member user:ann", "doc:a parent folder:f", "folder:f viewer user:ann")
        self.told(store, "doc:a editor", True, ("or", 1, ("same", reason_of("doc:a owner user:ann"))))
        inner = ("or", 0, reason_of("folder:f viewer user:ann"))
        part = ("or", 2, ("via", row("doc:a parent folder:f"), inner))
        self.told(store, "doc:a viewer", True, ("but", part, (pairs("doc:a banned"), ())))

    def test_and_but_and_what_is_within(self):
        store = sample_store("doc:a stranger user:ann", "doc:a viewer user:ann", "doc:a banned group:h#member",
                             "doc:a banned group:g#member", "group:g member user:ann", "group:h member user:ann")
        banned = ("group", row("doc:a banned group:g#member"), reason_of("group:g member user:ann"))
        refused = (pairs("doc:a viewer"), ((pair("doc:a banned"), banned),))
        self.told(store, "doc:a banned", True, banned)
        self.told(store, "doc:a viewer", False, refused)
        self.told(store, "doc:a stranger", True, ("but", reason_of("doc:a stranger user:ann"), refused))
        store.write(remove=rows("group:g member user:ann", "group:h member user:ann"), add=rows("doc:a editor user:ann", "doc:a both user:ann"))
        counter = (pairs("doc:a banned", "group:g member", "group:h member"), ())
        viewer = ("but", ("or", 0, reason_of("doc:a viewer user:ann")), counter)
        editor = ("or", 0, reason_of("doc:a editor user:ann"))
        self.told(store, "doc:a viewer", True, viewer)
        self.told(store, "doc:a both", True, ("and", ("same", viewer), ("same", editor), reason_of("doc:a both user:ann")))
        self.told(store, "doc:a stranger", False, (pairs("doc:a stranger"), ((pair("doc:a viewer"), viewer),)))


class TestFirstCounters(Case):
    def test_rows(self):
        store = sample_store("group:a member group:c#member", "group:a member group:b#member", "group:c member group:d#member",
                             "group:b member group:a#member", "group:b member group:e#member", "group:d member user:bob",
                             "group:b member group:c#member")
        every = pairs("group:a member", "group:b member", "group:c member", "group:e member", "group:d member")
        self.told(store, "group:a member", False, (every, ()))
        self.told(store, "group:e member", False, (pairs("group:e member"), ()))
        self.told(store, "group:z member", False, (pairs("group:z member"), ()))

    def test_or_same_and_via(self):
        store = sample_store("doc:a editor group:g#member", "doc:a parent doc:b", "doc:a parent folder:b", "doc:a parent folder:a",
                             "doc:b parent doc:a", "folder:a viewer group:g#member")
        every = pairs("doc:a viewer", "doc:a editor", "doc:b viewer", "folder:a viewer", "folder:b viewer", "group:g member",
                      "doc:a owner", "doc:b editor", "doc:b owner")
        self.told(store, "doc:a viewer", False, (every, ()))

    def test_and(self):
        store = sample_store("doc:a parent folder:f")
        every = pairs("doc:a both", "doc:a viewer", "doc:a editor", "folder:f viewer", "doc:a owner")
        self.told(store, "doc:a both", False, (every, ()))
        store.write(add=rows("doc:a viewer user:ann"))
        self.told(store, "doc:a both", False, (pairs("doc:a both", "doc:a editor", "doc:a owner"), ()))
        store.write(add=rows("doc:a owner user:ann"))
        self.told(store, "doc:a both", False, (pairs("doc:a both"), ()))

    def test_but(self):
        store = sample_store("doc:a banned user:ann", "doc:a editor user:ann", "doc:b parent doc:a", "doc:b parent doc:c",
                             "doc:c banned user:ann", "doc:b banned user:ann")
        banned = (pair("doc:a banned"), reason_of("doc:a banned user:ann"))
        self.told(store, "doc:a viewer", False, (pairs("doc:a viewer"), (banned,)))
        # What is banned and refused anyway is not granted, too.
        every = pairs("doc:b viewer", "doc:b editor", "doc:a viewer", "doc:c viewer", "doc:b owner", "doc:c editor", "doc:c owner")
        self.told(store, "doc:b viewer", False, (every, (banned,)))

    def test_granted_is_ascending(self):
        store = sample_store(*[f"doc:{name} {relation} user:ann" for name in "abc" for relation in ("banned", "owner")],
                             "doc:x parent doc:c", "doc:x parent doc:a", "doc:c parent doc:b")
        granted = tuple((pair(f"doc:{name} banned"), reason_of(f"doc:{name} banned user:ann")) for name in "ac")
        every = pairs("doc:x viewer", "doc:x editor", "doc:a viewer", "doc:c viewer", "doc:x owner")
        self.told(store, "doc:x viewer", False, (every, granted))
        rules = {"k": {"a": ((("k",),), ROWS), "z": ((("k",),), ROWS), "r": ((("k",),), ("or", ("but", ROWS, "z"), ("but", ROWS, "a")))}}
        store = Store(Book(rules), rows=rows("k:x a k:p", "k:x z k:p", "k:x r k:p"))
        granted = tuple((pair(f"k:x {name}"), reason_of(f"k:x {name} k:p")) for name in "az")
        self.told(store, "k:x r", False, (pairs("k:x r"), granted), ("k", "p"))

    def test_via_where_the_relation_is_a_link_or_unknown(self):
        book = Book({
            "a": {"up": ((("a",), ("b",), ("c",)), None), "r": ((("a",),), ("or", ROWS, ("via", "up", "r")))},
            "b": {"r": ((("a",),), None)}, "c": {},
        })
        store = Store(book, rows=rows("a:x up b:y", "a:x up a:y", "a:x up c:y", "b:y r a:p"))
        self.told(store, "a:x r", False, (pairs("a:x r", "a:y r"), ()), ("a", "p"))
        store.write(add=rows("a:y r a:p"))
        part = ("or", 1, ("via", row("a:x up a:y"), ("or", 0, reason_of("a:y r a:p"))))
        self.told(store, "a:x r", True, part, ("a", "p"))


class TestRandomStores(Case):
    def check(self, stores, most=1000):
        found = {"within reasons": 0, "within counters": 0, "more than one pair": 0}
        for store in stores:
            more = [(kind, "new") for kind in store.book.kinds]
            before = (store.version, store.rows)
            for person in sorted({one[2][:2] for one in store.rows} | {("user", "no"), (store.book.kinds[0], "x")}):
                first = FirstPapers(store, person, more)
                heights = expected_heights(store, person, more)
                for question in all_pairs(store, more):
                    answer, paper = answer_with(store, *question, person)
                    self.assertLessEqual(parts_in(paper), most)
                    self.assertEqual((answer, paper), first.answer(*question), (store.book.rules, store.rows, question, person))
                    self.assertEqual(first_reason(store, *question, person), paper if answer else None)
                    self.assertEqual(first_counter(store, *question, person), None if answer else paper)
                    self.assertIs(may(store, *question, person), answer)
                    self.assertIs(is_reason(store, *question, person, paper), answer)
                    self.assertIs(is_counter(store, *question, person, paper), not answer)
                    self.assertEqual(heights.get(question), height_of(paper) if answer else None)
                    self.assertEqual(height(store, *question, person), reason_height(paper) if answer else None)
                    counters = counters_in(paper) if answer else []
                    found["within reasons"] += any(counter[1] for counter in counters)
                    found["within counters"] += not answer and any(counters_in(reason) for _, reason in paper[1])
                    found["more than one pair"] += any(len(counter[0]) > 1 for counter in counters)
            self.assertEqual((store.version, store.rows), before)
        return found

    def test_books_of_all_sorts(self):
        self.check(random_stores(41, 80))

    def test_books_without_but(self):
        self.check(random_stores(42, 25, words=STEADY_WORDS, many=18))

    def test_deep_rules_and_few_objects(self):
        self.check(random_stores(43, 25, depth=5, names=("x", "y"), many=25), most=5000)

    def test_many_levels(self):
        found = self.check(mixed_stores(49, 35))
        self.assertTrue(all(many > 20 for many in found.values()), found)

    def test_no_paper_is_accepted_for_the_other_answer(self):
        """Papers for other rows, other questions and other persons, each tried for all questions."""
        dice = random.Random(44)
        for store in [*random_stores(45, 15, many=14), *mixed_stores(50, 15)]:
            persons = sorted({one[2][:2] for one in store.rows})
            papers = []
            for _ in range(4):
                every = [(*question, person) for question in all_pairs(store) for person in persons]
                papers.extend([answer_with(store, *one)[1] for one in dice.sample(every, min(8, len(every)))])
                store.write(remove=dice.sample(store.rows, len(store) // 3))
                store.go_back(dice.randint(0, store.version))
            for question in all_pairs(store):
                for person in persons[:3]:
                    answer = may(store, *question, person)
                    for paper in papers:
                        if answer:
                            self.assertIs(is_counter(store, *question, person, paper), False)
                        else:
                            self.assertIs(is_reason(store, *question, person, paper), False)


class TestWrites(Case):
    def test_answers_are_those_for_the_rows_as_they_are(self):
        store = sample_store("doc:a owner user:ann")
        owner = reason_of("doc:a owner user:ann")
        self.told(store, "doc:a owner", True, owner)
        store.write(remove=rows("doc:a owner user:ann"))
        self.told(store, "doc:a owner", False, (pairs("doc:a owner"), ()))
        self.assertIs(is_reason(store, *pair("doc:a owner"), ANN, owner), False)
        store.write()
        self.told(store, "doc:a owner", False, (pairs("doc:a owner"), ()))
        store.go_back(0)
        self.told(store, "doc:a owner", True, owner)
        self.assertIs(is_counter(store, *pair("doc:a owner"), ANN, (pairs("doc:a owner"), ())), False)

    def test_versions(self):
        dice = random.Random(46)
        for store in [*random_stores(47, 15, many=14), *mixed_stores(51, 15)]:
            questions = [(*question, person) for question in all_pairs(store)
                         for person in sorted({one[2][:2] for one in store.rows})]
            kept = [[answer_with(store, *question) for question in questions]]
            for _ in range(3):
                store.write(remove=dice.sample(store.rows, len(store) // 3))
                kept.append([answer_with(store, *question) for question in questions])
            for version, told in enumerate(kept):
                other = store.at(version)
                self.assertEqual([answer_with(other, *question) for question in questions], told)
                store.go_back(version)
                self.assertEqual([answer_with(store, *question) for question in questions], told)
                # What was told at another version stands only if it is right for the rows of now.
                for earlier in kept:
                    for question, now, (answer, paper) in zip(questions, told, earlier):
                        still = (is_reason if answer else is_counter)(store, *question, paper)
                        self.assertLessEqual(still, now[0] is answer)
                        if now == (answer, paper):
                            self.assertIs(still, True)


class TestSizes(Case):
    def test_deep_reasons(self):
        """Rules 5 deep, 50 steps one within another."""
        rule = ("or", ("and", ROWS, ROWS), ("or", ("or", ("or", ("via", "l", "r"), ("via", "l", "r")), ROWS), ROWS))
        book = Book({"k": {"l": ((("k",),), None), "r": ((("k",),), rule)}})
        names = [first + last for first in NAMES[:7] for last in NAMES[:7]] + ["z"]
        steps = [(("k", names[at]), "l", ("k", names[at + 1])) for at in range(49)]
        end = (("k", "z"), "r", ("k", "p"))
        store = Store(book, rows=steps + [end])
        value = ("or", 0, ("and", ("row", end), ("row", end)))
        for step in reversed(steps):
            value = ("or", 1, ("or", 0, ("or", 0, ("or", 0, ("via", step, value)))))
        self.told(store, "k:aa r", True, value, ("k", "p"))
        self.assertEqual(reason_height(value), 50)
        self.assertEqual(reason_rows(value), sorted(store.rows))

    def test_reasons_and_counters_in_turn(self):
        """Twenty levels: each refuses the one before."""
        made = {"a": ((("k",),), ROWS)}
        for at in range(1, 20):
            made[NAMES[at]] = ((("k",),), ("but", ROWS, NAMES[at - 1]))
        store = Store(Book({"k": made}), rows=[(("k", "x"), NAMES[at], ("k", "p")) for at in range(20)])
        paper = ("row", (("k", "x"), "a", ("k", "p")))
        for at in range(1, 20):
            if at % 2:
                paper = (pairs(f"k:x {NAMES[at]}"), ((pair(f"k:x {NAMES[at - 1]}"), paper),))
            else:
                paper = ("but", ("row", (("k", "x"), NAMES[at], ("k", "p"))), paper)
            self.told(store, f"k:x {NAMES[at]}", at % 2 == 0, paper, ("k", "p"))

    def test_the_same_reasons_many_times(self):
        for many in (1, 3, 8):
            store = doubling_store(many)
            paper = first_reason(store, *pair("k:aa r"), ("k", "p"))
            self.assertEqual(paper, FirstPapers(store, ("k", "p")).reason(*pair("k:aa r")))
            self.assertEqual([height_of(paper), len(reason_rows(paper))], [many + 1, 2 * many + 1])
            self.assertIs(is_reason(store, *pair("k:aa r"), ("k", "p"), paper), True)
            told = (pairs("k:aa no"), ((pair("k:aa r"), paper),))
            self.told(store, "k:aa no", False, told, ("k", "p"))

    def test_pieces_are_tuples(self):
        for store in random_stores(48, 20):
            for person in sorted({one[2][:2] for one in store.rows}):
                for question in all_pairs(store):
                    for piece in pieces(answer_with(store, *question, person)[1]):
                        self.assertTrue(all(type(item) in (tuple, str, int) for item in piece))


class TestBadQuestions(Case):
    STORE = sample_store("doc:a owner user:ann", "doc:a parent folder:x")

    def bad(self, first, relation, person):
        before = (self.STORE.version, self.STORE.rows)
        for function in (first_reason, first_counter, answer_with):
            with self.assertRaises(BadQuestion) as caught:
                function(self.STORE, first, relation, person)
            self.assertIs(type(caught.exception), BadQuestion)
            self.assertIs(type(caught.exception.value), tuple)
            self.assertEqual(len(caught.exception.value), 3)
            for told, given in zip(caught.exception.value, (first, relation, person)):
                self.assertIs(told, given)
        self.assertEqual((self.STORE.version, self.STORE.rows), before)

    def test_wrong_parts(self):
        for first in (("doc",), ("doc", "a", "owner"), ["doc", "a"], "doc:a", ("doc", "A"), ("nobody", "a"), ("user", "ann")):
            self.bad(first, "owner", ANN)
        for relation in ("parent", "member", "nothing", "", "rows", ("owner",), ["owner"]):
            self.bad(("doc", "a"), relation, ANN)
        for person in (("user",), ("group", "g", "member"), ["user", "ann"], "user:ann", ("user", "Ann"), (ANN,)):
            self.bad(("doc", "a"), "owner", person)

    def test_any_other_value(self):
        for value in [*odd_values(), *deep_values(), self.STORE, self.STORE.book, iter([ANN])]:
            self.bad(value, "owner", ANN)
            self.bad(("doc", "a"), value, ANN)
            self.bad(("doc", "a"), "owner", value)
            self.bad(value, value, value)
            self.bad(("doc", value), "owner", ANN) if value != "a" else None
            self.bad((value, "a"), "owner", ANN)

    def test_for_nothing_else(self):
        for first in (("doc", "a"), ("doc", "z"), ("folder", "x"), ("group", "a")):
            for relation in ("owner", "viewer", "member", "banned", "both", "stranger"):
                for person in (ANN, ("no", "body"), ("doc", "a"), ("or", "or")):
                    if (first[0], relation) in self.STORE.book:
                        self.assertIn(answer_with(self.STORE, first, relation, person)[0], (True, False))
                    else:
                        self.bad(first, relation, person)


class TestConventions(Case):
    def test_arguments_by_name(self):
        store = sample_store("doc:a owner user:ann")
        for function in (first_reason, first_counter, answer_with):
            self.assertEqual(argument_names(function), ["store", "thing", "relation", "person"])
            self.assertEqual(function.__module__, reasons.__name__)
            for relation in ("owner", "editor", "banned"):
                expected = function(store, ("doc", "a"), relation, ANN)
                self.assertEqual(function(person=ANN, relation=relation, thing=("doc", "a"), store=store), expected)

    def test_example(self):
        book = Book({"user": {}, "doc": {
            "parent": ((("doc",),), None), "viewer": (USER, ("or", ROWS, ("via", "parent", "viewer")))}})
        store = Store(book, rows=rows("doc:a parent doc:b", "doc:b viewer user:ann"))
        self.assertEqual(first_reason(store, ("doc", "a"), "viewer", ANN), (
            "or", 1, ("via", (("doc", "a"), "parent", ("doc", "b")), ("or", 0, ("row", (("doc", "b"), "viewer", ("user", "ann")))))))


if __name__ == "__main__":
    unittest.main()
