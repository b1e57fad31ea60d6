"""The texts of books and stores ([2], [18], [19])."""

import random
import unittest

from samples import (
    NAMES, ROWS, RULES, TEXT, USER, nested_rule, random_book, random_stores, refusing_chain, rows, sample_store, shuffled,
)
from sharerules import texts
from sharerules.books import Book
from sharerules.errors import BadText
from sharerules.grants import may
from sharerules.store import Store
from sharerules.texts import book_text, read_book, read_store, store_text
from values import argument_names, deep_values, odd_values

SMALL = "kind doc\nlink parent allows doc\nrelation viewer allows doc#viewer user = ( rows or viewer via parent )\nkind user"
SMALL_RULES = {
    "user": {},
    "doc": {
        "parent": ((("doc",),), None),
        "viewer": ((("doc", "viewer"), ("user",)), ("or", ROWS, ("via", "parent", "viewer"))),
    },
}
SIGNS = " \n:#-=()abkZ09~"


def changed_texts(text, signs=SIGNS):
    """The texts that differ from one in a sign: left out, put in, exchanged, doubled or turned round."""
    for at in range(len(text) + 1):
        for sign in signs:
            yield text[:at] + sign + text[at:]
            yield text[:at] + sign + text[at + 1:]
        yield text[:at] + text[at + 1:]
        yield text[:at] + text[at + 1:at + 2] + text[at:at + 1] + text[at + 2:]
        yield text[:at]
        yield text[at:]


def changed_words(dice, text, many):
    """Texts with words or lines left out, doubled, exchanged or moved."""
    for _ in range(many):
        between = dice.choice(["\n", " "])
        words = text.split(between)
        at, other = dice.randrange(len(words)), dice.randrange(len(words))
        way = dice.randrange(5)
        if way == 0:
            del words[at]
        elif way == 1:
            words.insert(other, words[at])
        elif way == 2:
            words[at], words[other] = words[other], words[at]
        elif way == 3:
            words[at] = dice.choice(["", "a", "k", "or", "and", "(", ")", "but", "not", "via", "rows", "-", "=", "allows",
                                     "kind", "link", "relation", "a#k", "a#k#k", "#", "kind a", "kind z"])
        else:
            words[at:at + 1] = words[at:at + 1] * 3
        yield between.join(words)


class Case(unittest.TestCase):
    def bad(self, read, value):
        with self.assertRaises(BadText) as caught:
            read(value)
        self.assertIs(type(caught.exception), BadText)
        self.assertIs(caught.exception.value, value)

    def bad_book(self, text):
        """It is no text of a book, and not that of one in a store."""
        self.bad(read_book, text)
        for whole in (text, f"{text}\n", f"{text}\n\ndoc:a viewer user:b"):
            self.bad(read_store, whole)


class TestBookText(Case):
    def test_samples(self):
        self.assertEqual(book_text(Book(RULES)), TEXT)
        self.assertEqual(book_text(Book(SMALL_RULES)), SMALL)
        self.assertEqual(book_text(Book({"a": {}})), "kind a")
        self.assertEqual(book_text(Book({"b": {}, "a": {}})), "kind a\nkind b")

    def test_each_sort_of_rule(self):
        rules = {
            ROWS: "rows",
            ("same", "s"): "s",
            ("via", "up", "s"): "s via up",
            ("or", ROWS, ("same", "s")): "( rows or s )",
            ("and", ("same", "s"), ROWS, ("via", "up", "s")): "( s and rows and s via up )",
            ("but", ("via", "up", "s"), "s"): "( s via up but not s )",
            ("but", ("or", ("and", ("same", "s"), ROWS), ("but", ("same", "s"), "s")), "s"):
                "( ( ( s and rows ) or ( s but not s ) ) but not s )",
        }
        for rule, text in rules.items():
            uses = ROWS in (rule, *rule[1:]) or "rows" in text
            allowed = (("a",),) if uses else ()
            book = Book({"a": {"up": ((("a",),), None), "s": ((("a",),), ROWS), "x": (allowed, rule)}})
            expected = f"kind a\nrelation s allows a = rows\nlink up allows a\nrelation x allows {'a' if uses else '-'} = {text}"
            self.assertEqual(book_text(book), expected)
            self.assertEqual(read_book(expected), book)

    def test_names_that_are_words(self):
        rules = {"or": {"same": ((("or",), ("or", "allows")), ROWS), "allows": ((("or",),), ("or", ROWS, ("same", "same"))),
                        "link": ((("kind",), ("or",)), None), "kind": ((), ("via", "link", "same"))}, "kind": {}}
        text = ("kind kind\nkind or\nrelation allows allows or = ( rows or same )\nrelation kind allows - = same via link\n"
                "link link allows kind or\nrelation same allows or or#allows = rows")
        self.assertEqual(book_text(Book(rules)), text)
        self.assertEqual(read_book(text).rules, rules)

    def test_the_sequence_of_keys_means_nothing(self):
        dice = random.Random(1)
        for _ in range(30):
            self.assertEqual(book_text(Book(shuffled(dice, RULES))), TEXT)

    def test_the_book_stays_as_it_is(self):
        book = Book(RULES)
        book_text(book)
        self.assertEqual(book.rules, RULES)


class TestReadBook(Case):
    def test_samples(self):
        self.assertEqual(read_book(TEXT).rules, RULES)
        self.assertEqual(read_book(SMALL).rules, SMALL_RULES)
        self.assertIs(type(read_book(SMALL)), Book)
        self.assertEqual(read_book("kind a").rules, {"a": {}})

    def test_random_books(self):
        dice = random.Random(2)
        for depth in (1, 2, 3, 4, 5):
            for _ in range(60):
                book = random_book(dice, depth=depth)
                text = book_text(book)
                self.assertEqual(read_book(text), book)
                self.assertEqual(book_text(read_book(text)), text)

    def test_large_books(self):
        pieces = [("via", "l", name) for name in NAMES[:11]] + [("same", name) for name in NAMES[:11]]
        allowed = tuple((kind,) for kind in NAMES[:10])
        table = {name: (allowed, ("or", ROWS, *pieces)) for name in NAMES[:20] if name != "l"}
        book = Book({kind: {**table, "l": (allowed, None)} for kind in NAMES[:10]})
        self.assertEqual(read_book(book_text(book)), book)
        book = Book({"a": {"x": ((("a",),), ("and", *([ROWS] * 2000)))}})
        self.assertEqual(read_book(book_text(book)), book)

    def test_depth(self):
        ways = [(lambda rule: ("or", rule, ROWS), "( {} or rows )"), (lambda rule: ("and", ROWS, rule), "( rows and {} )"),
                (lambda rule: ("but", rule, "s"), "( {} but not s )")]
        for wrap, form in ways:
            for depth in range(1, 10):
                inner = "rows"
                for _ in range(depth - 1):
                    inner = form.format(inner)
                text = f"kind a\nrelation s allows a = rows\nrelation x allows a = {inner}"
                if depth <= 5:
                    self.assertEqual(read_book(text).rule("a", "x"), nested_rule(depth, wrap))
                else:
                    self.bad_book(text)

    def test_brackets_thousands_deep(self):
        for many in (6, 100, 1000, 5000, 20000):
            for inner in ("( " * many, "( " * many + "rows" + " or rows )" * many, "( " * many + "rows" + " )" * many,
                          "( rows or " * many + "rows" + " )" * many, ") " * many + "rows", "rows" + " )" * many,
                          "( rows" + " but not x )" * many, "( " * many + "rows" + " but not s )" * many):
                self.bad_book(f"kind doc\nrelation s allows doc = rows\nrelation x allows doc = {inner}")

    def test_changed_texts(self):
        for text in (SMALL, "kind a", "kind a\nkind b"):
            for changed in changed_texts(text):
                self.right_or_bad(changed, read_book, book_text)
        # Exactly these names can be exchanged.
        self.assertEqual(read_book("kind dob\nkind user").kinds, ["dob", "user"])

    def test_changed_words(self):
        dice = random.Random(3)
        for _ in range(100):
            text = book_text(random_book(dice))
            for changed in changed_words(dice, text, 30):
                self.right_or_bad(changed, read_book, book_text)

    def right_or_bad(self, text, read, told):
        try:
            found = read(text)
        except BadText as error:
            self.assertIs(error.value, text)
        else:
            self.assertEqual(told(found), text)

    def test_blanks_and_newlines(self):
        for text in (SMALL, TEXT):
            self.bad_book(text.replace("\n", "\n\n", 1))
            self.bad_book(text + " ")
            self.bad_book(" " + text)
            self.bad_book("\n" + text)
            self.bad_book(text.replace(" ", "  ", 1))
            self.bad_book(text.replace("( ", "(", 1))
            self.bad_book(text.replace("\n", " \n", 1))
            self.bad_book(text.replace("\n", "\r\n"))
            self.bad_book(text.replace(" ", "\t"))
            self.bad_book(text.replace("\n", " / "))
            self.bad(read_book, text + "\n")
            self.bad(read_book, text + "\n\n")

    def test_lines(self):
        first = "kind doc\n"
        for line in ("relation viewer allows user rows", "relation viewer allows user =", "relation viewer allows = rows",
                     "relation viewer allows user = ", "relation viewer = rows", "relation viewer user = rows",
                     "relation allows user = rows", "viewer allows user = rows", "link viewer allows user = rows",
                     "relation viewer allows user", "link viewer allows -", "link viewer allows", "link viewer", "link",
                     "relation viewer allows - = rows", "relation viewer allows user = viewer",
                     "relation viewer allows user - = rows", "relation viewer allows user user = rows",
                     "relation viewer allows user doc = rows", "relation viewer allows doc user user = rows",
                     "relation viewer allows user#viewer = rows", "relation viewer allows user#x user = rows",
                     "relation viewer allows doc#viewer = rows", "relation viewer allows user = rows rows",
                     "relation viewer allows user = ( rows )", "relation viewer allows user = ( rows or )",
                     "relation viewer allows user = ( rows or rows", "relation viewer allows user = rows or rows",
                     "relation viewer allows user = ( rows or rows and rows )", "relation viewer allows user = ( or rows )",
                     "relation viewer allows user = ( rows or rows or )", "relation viewer allows user = ( rows , rows )",
                     "relation viewer allows user = ( rows but viewer )", "relation viewer allows user = ( rows not viewer )",
                     "relation viewer allows user = rows but not viewer", "relation viewer allows - = viewer via",
                     "relation viewer allows - = via viewer", "relation viewer allows - = viewer via viewer",
                     "relation viewer allows user = rows via viewer", "relation viewer allows user = none",
                     "relation viewer allows user = ( rows or rows ) )", "relation viewer allows user = ( ( rows or rows )",
                     "relation or allows user = rows", "relation rows allows user = rows", "relation Viewer allows user = rows",
                     "relation viewerxyz allows user = rows", "relation viewer allows user== rows", "kind", "kind ", "user",
                     "relation viewer allows user = ( rows xx rows )", "relation viewer allows user = ( rows but not )",
                     "relation viewer allows user = ( rows but not viewer", "relation  allows user = rows",
                     "relation viewer permits user = rows", "relation viewer allows user is rows", "", "kind a b"):
            self.bad_book(f"{first}{line}\nkind user")
        right = "relation viewer allows user = rows"
        self.assertEqual(read_book(f"{first}{right}\nkind user").relations("doc"), ["viewer"])
        self.bad_book(f"{right}\n{first}kind user")
        self.bad_book(f"kind user\n{first}{right}")
        self.bad_book(f"{first}{right}\n{right}\nkind user")
        self.bad_book(f"{first}{right}\nkind user\nkind user")
        self.bad_book(f"{first}{first}{right}\nkind user")
        self.bad_book(f"{first}relation z allows user = rows\n{right}\nkind user")
        self.bad_book(right)

    def test_rules_that_are_not_right_or_not_sound(self):
        self.bad_book("kind a\nrelation x allows a = ( rows but not x )")
        self.bad_book("kind a\nrelation x allows a = ( rows but not y )\nrelation y allows - = x")
        self.bad_book("\n".join(f"kind {name}" for name in NAMES[:11]))
        self.assertEqual(read_book("\n".join(f"kind {name}" for name in NAMES[:10])).kinds, NAMES[:10])
        lines = [f"relation {name} allows a = rows" for name in NAMES]
        self.bad_book("\n".join(["kind a", *lines[:21]]))
        self.assertEqual(len(read_book("\n".join(["kind a", *lines[:20]])).places), 20)
        self.assertEqual(read_book(book_text(Book(refusing_chain(20)))).level(("k", "t")), 19)

    def test_any_other_value(self):
        for value in [*odd_values(), *deep_values(), Book(RULES), sample_store(), RULES, [TEXT], (TEXT,), {TEXT: 1}, None,
                      True, 0, TEXT.split("\n"), iter([TEXT]), BadText(TEXT), "", "kind", "doc:a viewer user:b"]:
            self.bad(read_book, value)
            self.bad(read_store, value)


class TestStoreText(Case):
    def test_samples(self):
        book = Book(SMALL_RULES)
        self.assertEqual(store_text(Store(book)), SMALL + "\n")
        given = rows("doc:b viewer user:u", "doc:a viewer user:u", "doc:a viewer doc:b#viewer", "doc:a parent doc:b")
        self.assertEqual(store_text(Store(book, rows=given)), SMALL + (
            "\n\ndoc:a parent doc:b\ndoc:a viewer doc:b#viewer\ndoc:a viewer user:u\ndoc:b viewer user:u"))
        self.assertEqual(store_text(Store(Book({"a": {}}))), "kind a\n")

    def test_the_version_does_not_matter(self):
        store = Store(Book(SMALL_RULES))
        store.write(add=rows("doc:a viewer user:u"))
        store.write()
        text = SMALL + "\n\ndoc:a viewer user:u"
        self.assertEqual(store_text(store), text)
        other = read_store(text)
        self.assertEqual([other.version, other.rows, store.version], [0, store.rows, 2])
        self.assertIs(other.same(store), True)
        store.go_back(0)
        self.assertEqual(store_text(store), SMALL + "\n")


class TestReadStore(Case):
    def test_random_stores(self):
        for store in random_stores(4, 150):
            text = store_text(store)
            again = read_store(text)
            self.assertIs(again.same(store), True)
            self.assertEqual([again.version, again.rows, again.rows_at(0)], [0, store.rows, store.rows])
            self.assertIs(type(again), Store)
            self.assertEqual(store_text(again), text)

    def test_changed_texts(self):
        text = "kind a\nrelation r allows a a#r = rows\n\na:a r a:b\na:a r a:b#r"
        self.assertEqual(len(read_store(text)), 2)
        for whole in (text, "kind a\nlink r allows a\n\na:a r a:a", "kind a\n"):
            for changed in changed_texts(whole):
                TestReadBook.right_or_bad(self, changed, read_store, store_text)
        dice = random.Random(5)
        for store in random_stores(6, 60):
            for changed in changed_words(dice, store_text(store), 30):
                TestReadBook.right_or_bad(self, changed, read_store, store_text)

    def test_between_book_and_rows(self):
        row = "doc:a viewer user:u"
        self.assertEqual(len(read_store(f"{SMALL}\n\n{row}")), 1)
        self.assertEqual(len(read_store(f"{SMALL}\n")), 0)
        for text in (SMALL, f"{SMALL}\n\n", f"{SMALL}\n\n\n", f"{SMALL}\n{row}", f"{SMALL}\n\n\n{row}", f"{SMALL}\n\n{row}\n",
                     f"{SMALL}\n\n{row}\n\n", f"{SMALL}\n \n{row}", f"{SMALL}\n\n {row}", f"{SMALL}\n\n{row} ", f"\n{SMALL}\n",
                     f"{SMALL} \n", f"\n\n{row}", "\n", "\n\n", f"{SMALL}\r\n", f"{SMALL}\n\n{row}\n\n{row}",
                     f"{SMALL}\n\n{row}\n{SMALL}", f"{row}\n\n{SMALL}"):
            self.bad(read_store, text)
        # The text of a book is none of a store, and the other way round.
        self.bad(read_book, f"{SMALL}\n")
        self.bad(read_book, f"{SMALL}\n\n{row}")

    def test_rows(self):
        one, two = "doc:a viewer user:u", "doc:b viewer user:u"
        self.assertEqual(read_store(f"{SMALL}\n\n{one}\n{two}").rows, rows(one, two))
        for lines in ([two, one], [one, one], [one, "doc:b viewer"], ["doc:a owner user:u"], ["doc:a parent user:u"],
                      ["user:u viewer doc:a"], ["doc:a viewer user:u#viewer"], ["doc:a viewer group:u"], ["doc:a  viewer user:u"],
                      ["doc:a viewer user:U"], ["doc:a viewer user:u "], [one, "", two], ["None"], [""], ["kind z"]):
            self.bad(read_store, "\n".join([SMALL, "", *lines]))

    def test_a_hundred_rows(self):
        lines = [f"doc:{first + last} viewer user:u" for first in NAMES[:11] for last in NAMES[:10]]
        for many in (99, 100):
            self.assertEqual(len(read_store("\n".join([SMALL, "", *lines[:many]]))), many)
        for many in (101, 110):
            self.bad(read_store, "\n".join([SMALL, "", *lines[:many]]))


class TestConventions(Case):
    def test_arguments_by_name(self):
        names = {book_text: ["book"], store_text: ["store"], read_book: ["text"], read_store: ["text"]}
        for function, expected in names.items():
            self.assertEqual(argument_names(function), expected)
            self.assertEqual(function.__module__, texts.__name__)
        book = read_book(text=SMALL)
        self.assertEqual(book_text(book=book), SMALL)
        self.assertEqual(store_text(store=read_store(text=SMALL + "\n")), SMALL + "\n")

    def test_the_store_stays_as_it_is(self):
        store = sample_store("doc:a owner user:ann")
        store.write(remove=store.rows)
        store_text(store)
        self.assertEqual([store.version, store.rows, store.book.rules], [1, [], RULES])

    def test_examples(self):
        text = "kind doc\nrelation viewer allows user = rows\nkind user"
        self.assertEqual(book_text(read_book(text)), text)
        self.assertEqual(read_book(text).rules, {"user": {}, "doc": {"viewer": (USER, ROWS)}})
        store = read_store(
            "kind doc\nlink parent allows doc\nrelation viewer allows user = ( rows or viewer via parent )\nkind user\n\n"
            "doc:a parent doc:b\ndoc:b viewer user:ann")
        self.assertIs(may(store, ("doc", "a"), "viewer", ("user", "ann")), True)


if __name__ == "__main__":
    unittest.main()
