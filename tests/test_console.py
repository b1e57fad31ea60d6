"""The console ([2], [18] to [20])."""

import random
import re
import unittest

from oracle import all_pairs
from samples import NAMES, TEXT, mixed_stores, random_stores, right_rows, row
from sharerules import console as console_file
from sharerules.books import Book
from sharerules.checks import reason_rows
from sharerules.console import Console
from sharerules.errors import BadCommand, BadQuestion, BadRow, TakenRow, TooMany, UnknownRow
from sharerules.grants import may
from sharerules.lists import critical, objects_for, persons_for
from sharerules.names import row_text, subject_text
from sharerules.reasons import answer_with
from sharerules.store import Store
from sharerules.texts import book_text, store_text
from values import argument_names, deep_values, odd_values

BOOK = "book " + TEXT.replace("\n", " / ")
START = store_text(Store(Book({"user": {}})))


def sample_console(*texts):
    console = Console()
    console(BOOK)
    for text in texts:
        console("add " + text)
    return console


class Case(unittest.TestCase):
    def fails(self, error, console, command):
        before = console("save")
        with self.assertRaises(error) as caught:
            console(command)
        self.assertIs(type(caught.exception), error)
        self.assertEqual(console("save"), before)
        return next(iter(vars(caught.exception).values()))

    def bad(self, console, command):
        self.assertIs(self.fails(BadCommand, console, command), command)


class TestCommands(Case):
    def test_at_first(self):
        console = Console()
        self.assertEqual(console("save"), "kind user\n")
        self.assertEqual(console("save"), START)
        self.assertEqual(self.fails(BadRow, console, "add user:a owner user:b"), row("user:a owner user:b"))
        self.assertEqual(self.fails(BadQuestion, console, "may user:a owner user:b"), (("user", "a"), "owner", ("user", "b")))
        self.assertEqual(self.fails(BadQuestion, console, "objects user owner user:b"), ("user", "owner", ("user", "b")))

    def test_book(self):
        console = Console()
        self.assertEqual(console("book kind doc / relation viewer allows user = rows / kind user"), "ok 0")
        self.assertEqual(console("save"), "kind doc\nrelation viewer allows user = rows\nkind user\n")
        self.assertEqual(console("add doc:a viewer user:ann"), "ok 1")
        # The store is a new one.
        self.assertEqual(console(BOOK), "ok 0")
        self.assertEqual(console("save"), TEXT + "\n")
        self.assertEqual(console("book kind a"), "ok 0")
        self.assertEqual(console("save"), "kind a\n")

    def test_add_and_remove(self):
        console = sample_console()
        self.assertEqual(console("add doc:plan viewer user:ann"), "ok 1")
        self.assertEqual(console("add doc:plan editor group:staff#member"), "ok 2")
        self.assertEqual(console("remove doc:plan viewer user:ann"), "ok 3")
        self.assertEqual(console("save"), TEXT + "\n\ndoc:plan editor group:staff#member")
        self.assertEqual(console("add doc:plan viewer user:ann"), "ok 4")
        self.assertEqual(console("save"), TEXT + "\n\ndoc:plan editor group:staff#member\ndoc:plan viewer user:ann")

    def test_may_and_why(self):
        console = sample_console("doc:a parent folder:f", "folder:f viewer group:g#member", "group:g member user:ann", "doc:b banned group:g#member",
                                 "doc:b viewer user:ann", "doc:a both user:ann", "doc:a editor group:g#member")
        for words, answer, reason in (
            ("doc:a viewer user:ann", "yes", "yes 2"), ("folder:f viewer user:ann", "yes", "yes 2"), ("group:g member user:ann", "yes", "yes 1"),
            ("doc:a both user:ann", "yes", "yes 3"), ("doc:b viewer user:ann", "no", "no 1"), ("doc:b both user:ann", "no", "no 2"),
            ("doc:a viewer user:bob", "no", "no 5"), ("doc:z viewer user:bob", "no", "no 3"), ("doc:a owner no:body", "no", "no 1"),
            ("doc:b stranger user:ann", "no", "no 1"),
        ):
            self.assertEqual([console("may " + words), console("why " + words)], [answer, reason])

    def test_rows_are_counted_once_and_those_of_counters_not(self):
        console = Console()
        console("book kind k / relation a allows k = rows / relation r allows k = ( ( rows and rows ) but not s ) / relation s allows k = ( rows but not a )")
        for text in ("k:x r k:p", "k:x s k:p", "k:x a k:p"):
            console("add " + text)
        self.assertEqual(console("why k:x r k:p"), "yes 1")
        self.assertEqual(console("why k:x s k:p"), "no 1")

    def test_objects_and_persons(self):
        console = sample_console("doc:b owner user:ann", "doc:ab parent doc:b", "doc:a parent doc:ab", "doc:b editor user:bob", "doc:z owner user:cid")
        self.assertEqual(console("objects doc viewer user:ann"), "doc:a doc:ab doc:b")
        self.assertEqual(console("objects doc owner user:cid"), "doc:z")
        self.assertEqual(console("objects folder viewer user:cid"), "none")
        self.assertEqual(console("persons doc:a viewer user"), "user:ann user:bob")
        self.assertEqual(console("persons doc:z viewer user"), "user:cid")
        self.assertEqual([console("persons doc:z viewer doc"), console("persons doc:z viewer nobody"), console("persons doc:y viewer user")], ["none"] * 3)
        # "or" is a name, though no relation.
        self.assertEqual(console("persons doc:z viewer or"), "none")
        self.assertEqual(console("may doc:z viewer or:and"), "no")

    def test_critical(self):
        console = sample_console("doc:a parent folder:f", "folder:f viewer group:g#member", "group:g member user:ann", "doc:b owner user:ann")
        self.assertEqual(console("critical doc:a viewer user:ann"), "doc:a parent folder:f, folder:f viewer group:g#member, group:g member user:ann")
        self.assertEqual(console("critical doc:b owner user:ann"), "doc:b owner user:ann")
        self.assertEqual(console("critical doc:b owner user:bob"), "none")

    def test_random_stores(self):
        dice = random.Random(131)
        told = {}
        for store in [*random_stores(132, 40, many=14), *mixed_stores(133, 15)]:
            console, version = Console(), 0
            self.assertEqual(console("book " + book_text(store.book).replace("\n", " / ")), "ok 0")
            for one in dice.sample(store.rows, len(store)):
                version += 1
                self.assertEqual(console("add " + row_text(one)), f"ok {version}")
            free = [one for one in right_rows(store.book, ("x", "y", "p")) if one not in store]
            for one in dice.sample(free, min(3, len(free))):
                self.assertEqual([console("add " + row_text(one)), console("remove " + row_text(one))], [f"ok {version + 1}", f"ok {version + 2}"])
                version += 2
            self.assertEqual(console("save"), store_text(store))
            persons = sorted({one[2][:2] for one in store.rows}) or [("user", "ann")]
            for _ in range(12):
                (thing, relation), person = dice.choice(all_pairs(store, [(kind, "new") for kind in store.book.kinds])), dice.choice(persons)
                self.check(console, store, thing, relation, person, told)
            self.assertEqual(console("save"), store_text(store))
        for word in ("may", "why", "objects", "persons", "critical"):
            self.assertGreater(len(told[word]), 1)

    def check(self, console, store, thing, relation, person, told):
        answer, paper = answer_with(store, thing, relation, person)
        words = f"{subject_text(thing)} {relation} {subject_text(person)}"
        for command, expected in (
            ("may " + words, "yes" if may(store, thing, relation, person) else "no"),
            ("why " + words, f"yes {len(reason_rows(paper))}" if answer else f"no {len(paper[0])}"),
            (f"objects {thing[0]} {relation} {subject_text(person)}",
             " ".join(map(subject_text, objects_for(store, thing[0], relation, person))) or "none"),
            (f"persons {subject_text(thing)} {relation} {person[0]}",
             " ".join(map(subject_text, persons_for(store, thing, relation, person[0]))) or "none"),
            ("critical " + words, ", ".join(map(row_text, critical(store, thing, relation, person))) or "none"),
        ):
            self.assertEqual(console(command), expected)
            told.setdefault(command.split(" ")[0], set()).add(expected)

    def test_two_consoles_share_nothing(self):
        one, two = sample_console(), sample_console()
        one("add doc:a owner user:ann")
        self.assertEqual([one("may doc:a owner user:ann"), two("may doc:a owner user:ann")], ["yes", "no"])
        self.assertEqual([two("add doc:b owner user:ann"), one("add doc:c owner user:ann")], ["ok 1", "ok 2"])
        two("book kind a")
        self.assertEqual(one("save"), TEXT + "\n\ndoc:a owner user:ann\ndoc:c owner user:ann")
        self.assertEqual(Console()("save"), START)


class TestErrors(Case):
    def test_errors_of_the_functions(self):
        console = sample_console("doc:a owner user:ann")
        self.assertEqual(self.fails(TakenRow, console, "add doc:a owner user:ann"), row("doc:a owner user:ann"))
        self.assertEqual(self.fails(UnknownRow, console, "remove doc:b owner user:ann"), row("doc:b owner user:ann"))
        for text in ("doc:a owner group:g#member", "doc:a nothing user:ann", "no:body owner user:ann", "doc:a member user:ann"):
            self.assertEqual(self.fails(BadRow, console, "add " + text), row(text))
            self.assertEqual(self.fails(BadRow, console, "remove " + text), row(text))
        for word in ("may", "why", "critical"):
            for text, first, relation in (("doc:a parent", ("doc", "a"), "parent"), ("doc:a member", ("doc", "a"), "member"),
                                          ("no:body owner", ("no", "body"), "owner")):
                self.assertEqual(self.fails(BadQuestion, console, f"{word} {text} user:ann"), (first, relation, ("user", "ann")))
        for kind, relation in (("doc", "parent"), ("user", "owner"), ("nobody", "owner"), ("or", "owner")):
            self.assertEqual(self.fails(BadQuestion, console, f"objects {kind} {relation} user:ann"), (kind, relation, ("user", "ann")))
            self.assertEqual(self.fails(BadQuestion, console, f"persons {kind}:a {relation} user"), ((kind, "a"), relation, "user"))
        self.assertEqual(console("add doc:b owner user:ann"), "ok 2")

    def test_too_many(self):
        console = sample_console()
        for at in range(100):
            self.assertEqual(console(f"add doc:{NAMES[at // 10]}{NAMES[at % 10]} owner user:ann"), f"ok {at + 1}")
        self.assertEqual(self.fails(TooMany, console, "add doc:zz owner user:ann"), 101)
        self.assertEqual(console("remove doc:aa owner user:ann"), "ok 101")
        self.assertEqual(console("add doc:zz owner user:ann"), "ok 102")

    def test_wrong_words(self):
        console = sample_console("doc:a owner user:ann")
        for command in (
            "", " ", "  ", "\n", "save ", " save", "save save", "save\n", "Save", "saved", "sav", "load", "book", "book ", "add", "add ", "may", "may ",
            "why", "objects", "persons", "critical", "none", "yes", "ok 1", "effects", "known doc:a owner user:ann", "granted user:ann",
            "add doc:a owner", "add doc:a owner user:bob ", "add  doc:a owner user:bob", "add doc:a  owner user:bob", " add doc:a owner user:bob",
            "add doc:a owner user:bob user:bob", "add doc:a owner user", "add doc:A owner user:bob", "add doc:a or user:bob", "add doc:a owner user:bob\n",
            "add doc:a\nowner user:bob", "adddoc:a owner user:bob", "ADD doc:a owner user:bob", "remove doc:a owner", "remove  doc:a owner user:ann",
            "remove doc:a owner user:ann ", "remove", "remove ", "may doc:a owner", "may doc:a owner user:ann ", "may  doc:a owner user:ann",
            "may doc:a  owner user:ann", "may doc:a owner  user:ann", " may doc:a owner user:ann", "may doc:a owner user:ann user:ann",
            "may doc owner user:ann", "may doc:a owner user", "may doc:a owner group:g#member", "may group:g#member owner user:ann",
            "may doc:a or user:ann", "may doc:a rows user:ann", "may doc:a Owner user:ann", "may doc:a doc:a user:ann", "may doc:a# owner user:ann",
            "may doc:a owner user:ann#", "may doc:a owner user:abcdefghi", "may doc:a ownership user:ann", "why doc:a owner", "why doc:a not user:ann",
            "why doc:a owner user:ann ", "critical doc:a owner", "critical doc:a via user:ann", "critical doc:a owner group:g#member",
            "objects doc owner", "objects doc:a owner user:ann", "objects Doc owner user:ann", "objects doc owner user", "objects doc but user:ann",
            "objects doc owner group:g#member", "objects doc owner user:ann ", "objects  owner user:ann", "objects doc user:ann",
            "persons doc:a owner", "persons doc owner user", "persons doc:a owner user:ann", "persons doc:a owner User", "persons doc:a and user",
            "persons doc:a owner ", "persons doc:a owner user ", "persons group:g#member owner user", "persons doc:a owner abcdefghi",
        ):
            self.bad(console, command)

    def test_wrong_books(self):
        console = sample_console("doc:a owner user:ann")
        right = "kind doc / relation viewer allows user = rows / kind user"
        for text in (right + " ", " " + right, right + " / ", " / " + right, right.replace(" / ", "\n"), right.replace(" / ", "\n", 1),
                     right.replace(" / ", "/"), right.replace(" / ", " /"), right.replace(" / ", "  /  "), right.replace(" / ", " / / "),
                     right.replace(" / ", " \n "), right.replace(" / ", " // "), right + "\n", right.replace("user =", "user  ="),
                     "kind user / kind doc", "kind doc / kind doc", "kind Doc", "user", "kind", "kind doc / relation viewer allows user = rows",
                     "kind doc / relation a allows doc = ( rows but not a )", "kind doc / relation a allows - = a / ", right + " /  / doc:a viewer user:b",
                     "kind doc / relation viewer allows - = ( viewer or viewer", "kind a / relation r allows a = " + "( " * 5000):
            self.bad(console, "book " + text)
        self.assertEqual(console("book " + right), "ok 0")

    def test_any_other_value(self):
        console = sample_console("doc:a owner user:ann")
        for value in [*odd_values(), *deep_values(), console, Store(Book({"user": {}})), ["save"], ("save",), {"save": True}, b"save",
                      ["may", "doc:a", "owner", "user:ann"], iter(["save"])]:
            self.bad(console, value)

    def test_changed_commands(self):
        dice = random.Random(134)
        console = sample_console("doc:a owner user:ann")
        rights = ["may doc:a owner user:ann", "why doc:a owner user:ann", "objects doc owner user:ann", "persons doc:a owner user",
                  "critical doc:a owner user:ann", "add doc:b owner user:ann", "remove doc:a owner user:ann"]
        seen = {True: 0, False: 0}
        for _ in range(3000):
            words = dice.choice(rights).split(" ")
            at = dice.randrange(len(words))
            words[at] = dice.choice(["", "doc", "doc:a", "a:b", "owner", "user:bob", "group:g#member", "or", "viewer", "may", "objects", "A", "a\n", words[at] + " ", "zz:zz"])
            command = " ".join(words)
            if self.is_command(command):
                fresh = sample_console("doc:a owner user:ann")
                try:
                    self.assertIs(type(fresh(command)), str)
                except (BadQuestion, BadRow, TakenRow, UnknownRow):
                    self.assertEqual(fresh("save"), console("save"))
                seen[True] += 1
            else:
                self.bad(console, command)
                seen[False] += 1
        self.assertTrue(min(seen.values()) > 300, seen)

    def is_command(self, command):
        name, relation = "[a-z]{1,8}", "(?!(or|and|via|but|not|rows) )[a-z]{1,8}"
        thing = f"{name}:{name}"
        group = f"{thing}#(?!(or|and|via|but|not|rows)$)[a-z]{{1,8}}"
        for form in (f"(may|why|critical) {thing} {relation} {thing}", f"objects {name} {relation} {thing}", f"persons {thing} {relation} {name}",
                     f"(add|remove) {thing} {relation} ({thing}|{group})"):
            if re.fullmatch(form, command):
                return True
        return False


class TestConventions(Case):
    def test_arguments_by_name(self):
        self.assertEqual(argument_names(Console), [])
        self.assertEqual(argument_names(Console.__call__), ["self", "command"])
        self.assertEqual(Console.__module__, console_file.__name__)
        console = Console()
        self.assertEqual(console(command="save"), START)
        self.bad(console, "")

    def test_large_papers(self):
        """What the console tells by may, objects, persons and critical does not hang on how large papers are."""
        console = Console()
        console("book kind k / link l allows k / link m allows k / relation r allows k = ( rows or ( r via l and r via m ) )")
        for at in range(20):
            for link in "lm":
                console(f"add k:{NAMES[at]} {link} k:{NAMES[at + 1]}")
        console(f"add k:{NAMES[20]} r k:p")
        self.assertEqual([console("may k:a r k:p"), console("may k:a r k:q"), console("persons k:a r k")], ["yes", "no", "k:p"])
        self.assertEqual(console("objects k r k:p"), " ".join(f"k:{name}" for name in NAMES[:21]))
        self.assertEqual(len(console("critical k:a r k:p").split(", ")), 41)

    def test_example(self):
        console = Console()
        self.assertEqual(console("book kind doc / relation viewer allows user = rows / kind user"), "ok 0")
        self.assertEqual(console("add doc:plan viewer user:ann"), "ok 1")
        self.assertEqual([console("may doc:plan viewer user:ann"), console("why doc:plan viewer user:bob")], ["yes", "no 1"])


if __name__ == "__main__":
    unittest.main()
