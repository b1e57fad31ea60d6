"""The store: rows, versions, writes and their errors ([2], [3], [8], [13])."""

import copy
import inspect
import random
import unittest

from samples import NAMES, ROWS, RULES, USER, random_book, right_rows, row, rows, sample_store, shuffled
from sharerules import store as store_file
from sharerules.books import Book
from sharerules.errors import BadRow, BadVersion, TakenRow, TooMany, UnknownRow
from sharerules.store import Store
from values import argument_names, changed_values, deep_values, nested, odd_values

BOOK = Book(RULES)
A, B, C, D = rows("doc:a owner user:u", "doc:a parent folder:f", "folder:f viewer group:g#member", "group:g member user:u")
WRONG = row("doc:a owner group:g#member")


def many_rows(many):
    """So many different right rows."""
    return [(("doc", NAMES[at // 20] + NAMES[at % 20]), "owner", ("user", "u")) for at in range(many)]


def same_row(one):
    """An equal row that is another tuple."""
    return tuple(list(one))


def state(store):
    return [store.version, store.rows, len(store), [store.rows_at(at) for at in range(store.version + 1)],
            [store.rows_of(thing, relation) for thing, relation, _ in store.rows]]


class Case(unittest.TestCase):
    def fails(self, store, error, **told):
        """The error of a write, which changes neither the store nor what it is handed."""
        before = state(store)
        handed = {name: list(value) for name, value in told.items()}
        with self.assertRaises(error) as caught:
            store.write(**told)
        self.assertIs(type(caught.exception), error)
        self.assertEqual(state(store), before)
        for name, value in told.items():
            self.assertEqual([id(one) for one in value], [id(one) for one in handed[name]])
        return caught.exception

    def not_made(self, error, given):
        with self.assertRaises(error) as caught:
            Store(BOOK, rows=given)
        self.assertIs(type(caught.exception), error)
        return caught.exception


class TestMade(Case):
    def test_without_rows(self):
        for store in (Store(BOOK), Store(BOOK, rows=()), Store(BOOK, rows=[])):
            self.assertEqual([store.rows, store.version, len(store), store.rows_at(0)], [[], 0, 0, []])
            self.assertEqual(store.rows_of(A[0], A[1]), [])
            self.assertEqual(store.book, BOOK)

    def test_rows_are_ascending(self):
        for given in ([D, C, B, A], (B, A, D, C), [A, B, C, D]):
            store = Store(BOOK, rows=given)
            self.assertEqual(store.rows, [A, B, C, D])
            self.assertEqual([store.version, len(store), store.rows_at(0)], [0, 4, [A, B, C, D]])

    def test_properties(self):
        for name in ("book", "version", "rows"):
            self.assertIsInstance(inspect.getattr_static(Store, name), property)
        store = Store(BOOK, rows=[A])
        self.assertEqual([type(store.version), type(store.rows), type(store.rows[0])], [int, list, tuple])
        self.assertIs(store.book, BOOK)

    def test_bad_rows(self):
        for value in [WRONG, *odd_values(), *deep_values(), list(A), A[:2], A + A, (A,), row("doc:a nothing user:u"),
                      row("nobody:a owner user:u"), row("doc:a owner doc:u"), BOOK, Store(BOOK), iter([A])]:
            for given in ([value], (value,), [A, value], [A, A, value], [value, A], [A, value, WRONG]):
                self.assertIs(self.not_made(BadRow, given).value, value)

    def test_taken_rows(self):
        again = same_row(A)
        for given in ([A, again], [A, B, again], [B, A, C, again, A, B], (A, B, C, D, again)):
            self.assertIs(self.not_made(TakenRow, given).row, again)

    def test_limit(self):
        self.assertEqual(Store.LIMIT, 100)
        self.assertEqual(Store(BOOK).LIMIT, 100)
        for many in (99, 100):
            self.assertEqual(len(Store(BOOK, rows=many_rows(many))), many)
        for many in (101, 102, 250):
            self.assertEqual(self.not_made(TooMany, many_rows(many)).count, many)
            self.assertEqual(self.not_made(TooMany, tuple(many_rows(many))).count, many)

    def test_which_error_comes_first(self):
        many = many_rows(101)
        self.assertIs(self.not_made(BadRow, many + [A, A, WRONG]).value, WRONG)
        self.assertIs(self.not_made(TakenRow, many + [A, same_row(B), B]).row, B)
        self.assertEqual(self.not_made(TooMany, many + [A, B]).count, 103)

    def test_what_is_handed_in_and_returned_belongs_to_the_caller(self):
        given = [B, A]
        store = Store(BOOK, rows=given)
        given.append(C)
        store.rows.append(C)
        store.rows_at(0).clear()
        store.rows_of(A[0], A[1]).append(A[2])
        self.assertEqual(given, [B, A, C])
        self.assertEqual(state(store), [0, [A, B], 2, [[A, B]], [[A[2]], [B[2]]]])
        self.assertIs(C in store, False)


class TestAsked(Case):
    def test_in(self):
        store = Store(BOOK, rows=[A, B, C])
        for one in (A, B, C, same_row(A)):
            self.assertIs(one in store, True)
        for value in [D, WRONG, list(A), A[:2], (A,), [A], A[0], *odd_values(), *deep_values(), store, BOOK, iter([A])]:
            self.assertIs(value in store, False)
            self.assertIs((A[0], A[1], value) in store, False)
            self.assertIs((value, A[1], A[2]) in store, value == A[0])
            self.assertIs((A[0], value, A[2]) in store, False)
        dice = random.Random(1)
        for value in changed_values(dice, A, 300):
            self.assertIs(value in store, value in [A, B, C], value)

    def test_rows_of(self):
        more = rows("doc:a editor user:b", "doc:a editor group:z#member", "doc:a editor user:a", "doc:b editor user:c",
                    "doc:a editor group:a#member")
        store = Store(BOOK, rows=more + [A, B])
        self.assertEqual(store.rows_of(("doc", "a"), "editor"), [
            ("group", "a", "member"), ("group", "z", "member"), ("user", "a"), ("user", "b")])
        self.assertEqual(store.rows_of(("doc", "b"), "editor"), [("user", "c")])
        self.assertEqual(store.rows_of(("doc", "a"), "parent"), [("folder", "f")])
        for thing, relation in ((("doc", "a"), "viewer"), (("doc", "z"), "editor"), (("user", "a"), "editor")):
            self.assertEqual(store.rows_of(thing, relation), [])

    def test_random_stores(self):
        dice = random.Random(2)
        for _ in range(60):
            book = random_book(dice)
            right = right_rows(book, ("x", "y", "z"))
            given = dice.sample(right, min(len(right), 15))
            store = Store(book, rows=given)
            self.assertEqual(store.rows, sorted(given))
            for one in right:
                self.assertIs(one in store, one in given)
                self.assertEqual(store.rows_of(one[0], one[1]), sorted(r[2] for r in given if r[:2] == one[:2]))


class TestWrite(Case):
    def test_versions(self):
        store = Store(BOOK, rows=[B])
        self.assertEqual(store.write(add=[A]), 1)
        self.assertEqual(store.write(add=(D, C), remove=[B]), 2)
        self.assertEqual(store.write(remove=(A,)), 3)
        self.assertEqual(store.write(), 4)
        self.assertEqual(store.write(add=[], remove=()), 5)
        self.assertEqual(store.write(add=[A, B]), 6)
        self.assertEqual(store.version, 6)
        self.assertEqual([store.rows_at(at) for at in range(7)], [
            [B], [A, B], [A, C, D], [C, D], [C, D], [C, D], [A, B, C, D]])
        self.assertEqual([store.rows, len(store)], [[A, B, C, D], 4])
        self.assertIs(B in store, True)

    def test_in_and_rows_of_follow_the_writes(self):
        store = Store(BOOK, rows=[A])
        store.write(add=[B], remove=[A])
        self.assertEqual([A in store, B in store, len(store)], [False, True, 1])
        self.assertEqual([store.rows_of(A[0], A[1]), store.rows_of(B[0], B[1])], [[], [B[2]]])

    def test_bad_rows(self):
        store = Store(BOOK, rows=[A, B])
        for value in [WRONG, *odd_values(), *deep_values(), list(A), (A,), row("doc:a nothing user:u"), store, BOOK]:
            self.assertIs(self.fails(store, BadRow, add=[value]).value, value)
            self.assertIs(self.fails(store, BadRow, remove=(value,)).value, value)
            # Of add before remove, the first one of each; and before all other errors.
            self.assertIs(self.fails(store, BadRow, add=(A, value, WRONG), remove=[list(B), C, C]).value, value)
            self.assertIs(self.fails(store, BadRow, add=[A, A], remove=[C, C, value, list(B)]).value, value)

    def test_taken_rows(self):
        store = Store(BOOK, rows=[A, B])
        again, third = same_row(A), same_row(C)
        self.assertIs(self.fails(store, TakenRow, add=[again]).row, again)
        self.assertIs(self.fails(store, TakenRow, add=(C, third)).row, third)
        self.assertIs(self.fails(store, TakenRow, add=[C, D, again, third]).row, again)
        self.assertIs(self.fails(store, TakenRow, add=[C, third, again]).row, third)
        # It is judged by the rows before the write.
        self.assertIs(self.fails(store, TakenRow, add=[again], remove=[A]).row, again)
        self.assertIs(self.fails(store, TakenRow, add=[again], remove=[C, C]).row, again)

    def test_unknown_rows(self):
        store = Store(BOOK, rows=[A, B])
        again, third = same_row(A), same_row(C)
        self.assertIs(self.fails(store, UnknownRow, remove=[third]).row, third)
        self.assertIs(self.fails(store, UnknownRow, remove=(A, again)).row, again)
        self.assertIs(self.fails(store, UnknownRow, remove=[B, A, again, third]).row, again)
        self.assertIs(self.fails(store, UnknownRow, remove=[A, third, again]).row, third)
        # A row that is not there cannot be added and removed at once.
        self.assertIs(self.fails(store, UnknownRow, add=[C], remove=[third]).row, third)

    def test_limit(self):
        many = many_rows(104)
        store = Store(BOOK, rows=many[:98])
        self.assertEqual(self.fails(store, TooMany, add=many[98:101]).count, 101)
        self.assertEqual(self.fails(store, TooMany, add=many[98:104], remove=many[:3]).count, 101)
        self.assertEqual(store.write(add=many[98:100]), 1)
        self.assertEqual(len(store), 100)
        self.assertEqual(self.fails(store, TooMany, add=many[100:101]).count, 101)
        self.assertEqual(self.fails(store, TooMany, add=many[100:104]).count, 104)
        self.assertEqual(store.write(add=many[100:103], remove=many[:3]), 2)
        self.assertEqual(store.rows, sorted(many[3:103]))
        self.assertEqual(store.write(remove=many[3:103]), 3)
        self.assertEqual(store.rows, [])

    def test_which_error_comes_first(self):
        many = many_rows(200)
        store = Store(BOOK, rows=many[:100])
        new = many[100:]
        self.assertIs(self.fails(store, BadRow, add=new + [new[0]], remove=[A, WRONG]).value, WRONG)
        self.assertIs(self.fails(store, TakenRow, add=new + [new[7]], remove=[A, A]).row, new[7])
        self.assertIs(self.fails(store, UnknownRow, add=new, remove=[many[1], A]).row, A)
        self.assertEqual(self.fails(store, TooMany, add=new, remove=many[:3]).count, 197)

    def test_what_is_handed_in_stays_as_it_is(self):
        store = Store(BOOK, rows=[B])
        add, remove = [D, A], [B]
        store.write(add=add, remove=remove)
        self.assertEqual([add, remove], [[D, A], [B]])
        add.clear()
        remove.append(A)
        store.rows_at(1).append(C)
        self.assertEqual([store.rows, store.rows_at(0), store.rows_at(1)], [[A, D], [B], [A, D]])

    def test_random_writes(self):
        dice = random.Random(3)
        for _ in range(40):
            book = random_book(dice)
            right = right_rows(book, ("x", "y"))
            store, expected = Store(book), [[]]
            for version in range(1, 15):
                there = expected[-1]
                others = [one for one in right if one not in there]
                add = dice.sample(others, dice.randint(0, min(4, len(others))))
                remove = dice.sample(there, dice.randint(0, min(3, len(there))))
                if dice.random() < 0.2:
                    back = dice.randrange(version)
                    self.assertEqual(store.go_back(back), version)
                    expected.append(expected[back])
                else:
                    self.assertEqual(store.write(add=add, remove=tuple(remove)), version)
                    expected.append(sorted(set(there) - set(remove) | set(add)))
                self.assertEqual([store.rows_at(at) for at in range(version + 1)], expected)
                self.assertEqual([store.rows, store.version, len(store)], [expected[-1], version, len(expected[-1])])


class TestVersions(Case):
    def store(self):
        store = Store(BOOK, rows=[A])
        store.write(add=[B])
        store.write(remove=[A])
        return store

    def test_at(self):
        store = self.store()
        for version, there in enumerate([[A], [A, B], [B]]):
            other = store.at(version)
            self.assertEqual([other.rows, other.version, other.rows_at(0)], [there, 0, there])
            self.assertIs(type(other), Store)
            self.assertEqual(other.book, BOOK)
            self.assertIsNot(other, store)

    def test_what_at_returns_goes_its_own_way(self):
        store = self.store()
        kept = state(store)
        for version in (0, 1, 2):
            other = store.at(version)
            self.assertEqual(other.write(add=[C, D]), 1)
            self.assertEqual(state(store), kept)
        other = store.at(2)
        store.write(add=[D])
        self.assertEqual([other.rows, other.version], [[B], 0])

    def test_go_back(self):
        store = self.store()
        self.assertEqual(store.go_back(1), 3)
        self.assertEqual([store.rows, store.version, len(store)], [[A, B], 3, 2])
        self.assertEqual(store.go_back(0), 4)
        self.assertEqual(store.rows_of(B[0], B[1]), [])
        self.assertEqual(store.go_back(4), 5)
        self.assertEqual(store.go_back(version=2), 6)
        self.assertEqual([store.rows_at(at) for at in range(7)], [[A], [A, B], [B], [A, B], [A], [A], [B]])
        self.assertEqual([A in store, B in store], [False, True])
        store.write(add=[A])
        self.assertEqual(store.rows_at(2), [B])

    def test_bad_versions(self):
        store = self.store()
        kept = state(store)
        for value in [-1, 3, 4, 10 ** 30, -10 ** 30, *[v for v in [*odd_values(), *deep_values()] if v not in (0, 1, 2)],
                      True, False, None, "1", "", [1], (1,), store, BOOK, iter([1]), BadRow(1)]:
            for asked in (store.rows_at, store.at, store.go_back):
                with self.assertRaises(BadVersion) as caught:
                    asked(value)
                self.assertIs(caught.exception.value, value)
                self.assertIs(type(caught.exception), BadVersion)
                self.assertEqual(state(store), kept)

    def test_each_version_that_there_is(self):
        store = Store(BOOK)
        for version in range(50):
            with self.assertRaises(BadVersion):
                store.rows_at(version + 1)
            self.assertEqual(store.rows_at(version), [A] if version % 2 else [])
            store.write(**({"remove": [A]} if version % 2 else {"add": [A]}))


class TestSame(Case):
    def test_versions_do_not_matter(self):
        one, other = Store(BOOK, rows=[A, B]), Store(BOOK, rows=[A])
        self.assertIs(one.same(other), False)
        other.write(add=[B])
        self.assertIs(one.same(other), True)
        self.assertIs(other.same(one), True)
        self.assertIs(one.same(one), True)
        one.write(remove=[A])
        self.assertIs(one.same(other), False)
        one.go_back(0)
        self.assertIs(one.same(other=other), True)

    def test_books_and_rows(self):
        equal = Book(shuffled(random.Random(4), RULES))
        larger = Book({**RULES, "more": {}})
        self.assertIs(Store(BOOK, rows=[A]).same(Store(equal, rows=(A,))), True)
        self.assertIs(Store(BOOK, rows=[A]).same(Store(larger, rows=[A])), False)
        self.assertIs(Store(BOOK).same(Store(larger)), False)
        self.assertIs(Store(BOOK).same(Store(BOOK)), True)
        self.assertIs(Store(BOOK, rows=[A]).same(Store(BOOK, rows=[B])), False)
        self.assertIs(Store(BOOK, rows=[A, B]).same(Store(BOOK, rows=[B, A])), True)


class TestConventions(Case):
    def test_arguments_by_name(self):
        names = {
            Store: ["book", "rows"], Store.rows_of: ["self", "thing", "relation"], Store.write: ["self", "add", "remove"],
            Store.rows_at: ["self", "version"], Store.at: ["self", "version"], Store.go_back: ["self", "version"],
            Store.same: ["self", "other"],
        }
        for function, expected in names.items():
            self.assertEqual(argument_names(function), expected)
        store = Store(book=BOOK, rows=[A])
        self.assertEqual(store.rows_of(relation=A[1], thing=A[0]), [A[2]])
        self.assertEqual(store.write(remove=[A], add=[B]), 1)
        self.assertEqual(store.rows_at(version=0), [A])
        self.assertEqual(store.at(version=0).rows, [A])

    def test_some_are_passed_by_name_only(self):
        with self.assertRaises(TypeError):
            Store(BOOK, [A])
        with self.assertRaises(TypeError):
            Store(BOOK).write([A])

    def test_arguments_stay_as_they_are(self):
        value = [["doc", "a"], "owner", ["user", {"b": ["c"]}]]
        kept = copy.deepcopy(value)
        store = sample_store("doc:a owner user:b")
        self.assertIs(value in store, False)
        self.fails(store, BadRow, add=[value])
        self.not_made(BadRow, [value])
        self.assertEqual(value, kept)

    def test_rows_deeper_than_what_can_be_a_key(self):
        store = Store(BOOK)
        deep = nested(lambda value: (value, value), 300)
        self.assertIs(self.fails(store, BadRow, add=[deep]).value, deep)
        self.assertIs(deep in store, False)

    def test_the_file_defines_it(self):
        self.assertEqual(Store.__module__, store_file.__name__)

    def test_example(self):
        store = Store(Book({"user": {}, "doc": {"owner": (USER, ROWS)}}))
        store.write(add=[(("doc", "plan"), "owner", ("user", "ann"))])
        self.assertEqual([store.version, len(store), store.rows_at(0)], [1, 1, []])


if __name__ == "__main__":
    unittest.main()
