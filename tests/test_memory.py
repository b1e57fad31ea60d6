"""Memories, guards and guarded writes ([2], [8] to [10], [13], [14])."""

import inspect
import random
import unittest

from oracle import all_pairs, expected_stands
from papers import FirstPapers, changed_paper, expected_counter, expected_reason, pieces
from samples import NAMES, ROWS, mixed_stores, random_stores, right_rows, row, rows, sample_store, thing
from sharerules import memory as memory_file
from sharerules.books import Book
from sharerules.errors import BadGuard, BadQuestion, BadRow, TakenRow, TooMany, UnknownRow
from sharerules.memory import Memory, guarded_write, is_guard
from sharerules.reasons import answer_with
from sharerules.store import Store
from values import argument_names, deep_values, odd_values

ANN = ("user", "ann")


def question(text, person=ANN):
    first, relation = text.split(" ")
    return (thing(first), relation, person)


def reason_of(text):
    return ("row", row(text))


def pairs(*texts):
    return tuple(question(text)[:2] for text in texts)


def state(store):
    return [store.version, store.rows, [store.rows_at(at) for at in range(store.version + 1)], store.book.rules]


def persons_in(store):
    return sorted({one[2] for one in store.rows if len(one[2]) == 2})


class TestMemory(unittest.TestCase):
    def told(self, memory, asked, known, stands, found):
        self.assertEqual(memory.known(*asked), known)
        self.assertIs(memory.stands(*asked), stands)
        self.assertEqual(memory.found, found)

    def test_before_and_after_the_first_question(self):
        store = sample_store("doc:a owner user:ann")
        memory = Memory(store)
        asked, owner = question("doc:a owner"), (True, reason_of("doc:a owner user:ann"))
        self.told(memory, asked, None, False, 0)
        self.assertIs(memory.ask(*asked), True)
        self.told(memory, asked, owner, True, 1)
        self.assertIs(memory.ask(*asked), True)
        self.told(memory, asked, owner, True, 1)
        other = question("doc:a banned")
        self.told(memory, other, None, False, 1)
        self.assertIs(memory.ask(*other), False)
        self.told(memory, other, (False, (pairs("doc:a banned"), ())), True, 2)
        self.told(memory, question("doc:a owner", ("user", "bob")), None, False, 2)
        self.assertIs(type(memory.known(*other)), tuple)

    def test_what_is_kept_stays_until_it_is_asked_for_again(self):
        store = sample_store("doc:a owner user:ann")
        memory = Memory(store)
        asked, owner, none = question("doc:a owner"), (True, reason_of("doc:a owner user:ann")), (False, (pairs("doc:a owner"), ()))
        memory.ask(*asked)
        store.write(remove=rows("doc:a owner user:ann"))
        self.told(memory, asked, owner, False, 1)
        store.write(add=rows("doc:b owner user:ann"))
        self.told(memory, asked, owner, False, 1)
        store.go_back(0)
        self.told(memory, asked, owner, True, 1)
        self.assertIs(memory.ask(*asked), True)
        self.assertEqual(memory.found, 1)
        store.go_back(2)
        self.assertIs(memory.ask(*asked), False)
        self.told(memory, asked, none, True, 2)
        store.write(add=rows("doc:a owner user:ann"))
        self.told(memory, asked, none, False, 2)
        self.assertIs(memory.ask(*asked), True)
        self.told(memory, asked, owner, True, 3)

    def test_a_reason_that_stands_is_kept_though_there_is_a_lower_one(self):
        store = sample_store("group:a member group:b#member", "group:b member user:ann")
        memory = Memory(store)
        asked = question("group:a member")
        kept = (True, ("group", row("group:a member group:b#member"), reason_of("group:b member user:ann")))
        memory.ask(*asked)
        store.write(add=rows("group:a member user:ann"))
        self.told(memory, asked, kept, True, 1)
        self.assertIs(memory.ask(*asked), True)
        self.told(memory, asked, kept, True, 1)
        # The answer stays, but not the reason.
        store.write(remove=rows("group:b member user:ann"))
        self.told(memory, asked, kept, False, 1)
        self.assertIs(memory.ask(*asked), True)
        self.told(memory, asked, (True, reason_of("group:a member user:ann")), True, 2)

    def test_a_counter_reason_that_stands_is_kept(self):
        store = sample_store("doc:a banned group:g#member", "group:g member group:h#member", "doc:b owner user:ann")
        memory = Memory(store)
        asked = question("doc:a banned")
        kept = (False, (pairs("doc:a banned", "group:g member", "group:h member"), ()))
        memory.ask(*asked)
        for told in ({"add": rows("doc:c owner user:ann")}, {"remove": rows("group:g member group:h#member")},
                     {"add": rows("group:h member user:bob")}, {"add": rows("group:g member group:g#member")}):
            store.write(**told)
            self.assertIs(memory.ask(*asked), False)
            self.told(memory, asked, kept, True, 1)
        store.write(add=rows("group:g member group:i#member"))
        self.told(memory, asked, kept, False, 1)
        self.assertIs(memory.ask(*asked), False)
        self.told(memory, asked, (False, (pairs("doc:a banned", "group:g member", "group:i member"), ())), True, 2)

    def test_forget(self):
        store = sample_store("doc:a owner user:ann")
        memory = Memory(store)
        asked = question("doc:a owner")
        self.assertIs(memory.forget(), None)
        memory.ask(*asked)
        memory.ask(*question("doc:a viewer"))
        self.assertIs(memory.forget(), None)
        self.told(memory, asked, None, False, 2)
        self.told(memory, question("doc:a viewer"), None, False, 2)
        self.assertIs(memory.ask(*asked), True)
        self.told(memory, asked, (True, reason_of("doc:a owner user:ann")), True, 3)

    def test_it_is_the_store_itself(self):
        store = sample_store()
        memory, other = Memory(store), Memory(store)
        asked = question("doc:a owner")
        self.assertIs(memory.ask(*asked), False)
        store.write(add=rows("doc:a owner user:ann"))
        self.assertIs(memory.ask(*asked), True)
        self.told(other, asked, None, False, 0)
        self.assertEqual(state(store)[:2], [1, rows("doc:a owner user:ann")])

    def test_random_writes_and_questions(self):
        dice = random.Random(91)
        counts = {"kept": 0, "anew": 0, "kept over a write": 0}
        for store in [*random_stores(92, 25, many=14), *mixed_stores(93, 25)]:
            memory, kept, found = Memory(store), {}, 0
            every = [(*pair, person) for pair in all_pairs(store) for person in persons_in(store)[:3]]
            every = dice.sample(every, min(12, len(every)))
            free = right_rows(store.book, ("x", "y", "p", "q"))
            for _ in range(6):
                first = {person: FirstPapers(store, person, [one[0] for one in every]) for person in {one[2] for one in every}}
                for asked in every:
                    self.assertEqual(memory.known(*asked), kept.get(asked))
                    still = False
                    if asked in kept:
                        answer, paper = kept[asked]
                        still = (expected_reason if answer else expected_counter)(store, *asked, paper)
                    self.assertIs(memory.stands(*asked), still)
                    if dice.random() < 0.7:
                        before = state(store)
                        self.assertIs(memory.ask(*asked), asked[:2] in first[asked[2]].stands)
                        self.assertEqual(state(store), before)
                        if not still:
                            kept[asked] = first[asked[2]].answer(*asked[:2])
                            found += 1
                        counts["kept" if still else "anew"] += 1
                        counts["kept over a write"] += still and store.version > 0
                    self.assertEqual(memory.found, found)
                    self.assertEqual(memory.known(*asked), kept.get(asked))
                way = dice.random()
                if way < 0.1:
                    memory.forget()
                    kept = {}
                elif way < 0.3:
                    store.go_back(dice.randint(0, store.version))
                else:
                    add = [one for one in dice.sample(free, min(2, len(free))) if one not in store]
                    store.write(add=add, remove=dice.sample(store.rows, min(len(store), dice.randint(0, 2))))
        self.assertTrue(all(many > 100 for many in counts.values()), counts)


class TestGuards(unittest.TestCase):
    STORE = sample_store("doc:a owner user:ann", "doc:a banned group:g#member", "doc:b viewer user:ann", "doc:b banned user:ann")
    YES = (*question("doc:a owner"), True, reason_of("doc:a owner user:ann"))
    NO = (*question("doc:a banned"), False, (pairs("doc:a banned", "group:g member"), ()))

    def test_those_that_stand(self):
        told = (True, False)
        self.assertEqual((is_guard(self.STORE, self.YES), is_guard(self.STORE, (*self.YES[:3], False, self.YES[4]))), told)
        self.assertEqual((is_guard(self.STORE, self.NO), is_guard(self.STORE, (*self.NO[:3], True, self.NO[4]))), told)
        for asked in (question("doc:a viewer"), question("doc:b viewer"), question("doc:a both"), question("group:g member")):
            answer, paper = answer_with(self.STORE, *asked)
            self.assertIs(is_guard(self.STORE, (*asked, answer, paper)), True)
            self.assertIs(is_guard(self.STORE, (*asked, not answer, paper)), False)

    def test_those_that_do_not(self):
        for guard in (self.YES, self.NO):
            for wrong in (list(guard), guard[:4], guard + (None,), (guard,), guard[::-1], (), (*guard[:3], int(guard[3]), guard[4]),
                          (*guard[:3], str(guard[3]), guard[4]), (*guard[:3], None, guard[4]), (*guard[:4], None), (*guard[:4], ()),
                          (("doc", "b"), *guard[1:]), (guard[0], "editor", *guard[2:]), (guard[0], "parent", *guard[2:]),
                          (*guard[:2], "user:ann", *guard[3:]), (*guard[:4], list(guard[4])), {guard: True}, guard[4],
                          (list(guard[0]), *guard[1:]), (("doc", "A"), *guard[1:]), (("nobody", "a"), *guard[1:])):
                self.assertIs(is_guard(self.STORE, wrong), False)
        self.assertIs(is_guard(self.STORE, (*self.YES[:2], ("user", "bob"), *self.YES[3:])), False)

    def test_any_value(self):
        before = state(self.STORE)
        for value in [*odd_values(), *deep_values(), self.STORE, self.STORE.book, Memory(self.STORE), iter([self.YES])]:
            self.assertIs(is_guard(self.STORE, value), False)
            for guard in (self.YES, self.NO):
                for at in range(5):
                    expected = guard[at] is value or (at == 2 and guard is self.NO and value == ("a", "b"))
                    self.assertIs(is_guard(self.STORE, (*guard[:at], value, *guard[at + 1:])), expected)
        self.assertEqual(state(self.STORE), before)

    def test_the_rows_of_the_present_version(self):
        store = self.STORE.at(0)
        store.write(remove=rows("doc:a owner user:ann"))
        self.assertEqual([is_guard(store, self.YES), is_guard(store, self.NO)], [False, True])
        store.write(add=rows("group:g member user:ann"))
        self.assertEqual([is_guard(store, self.YES), is_guard(store, self.NO)], [False, False])
        store.go_back(0)
        self.assertEqual([is_guard(store, self.YES), is_guard(store, self.NO)], [True, True])

    def test_random_values(self):
        dice = random.Random(94)
        seen = {True: 0, False: 0}
        for store in [*random_stores(95, 25, many=14), *mixed_stores(96, 20)]:
            guards = []
            for pair in all_pairs(store):
                guards.extend((*pair, person, *answer_with(store, *pair, person)) for person in persons_in(store)[:3])
            pool = [True, False, *[piece for guard in guards for piece in pieces(guard)]]
            for guard in dice.sample(guards, min(20, len(guards))):
                self.assertIs(is_guard(store, guard), True)
                for _ in range(4):
                    value = changed_paper(dice, guard, pool)
                    expected = self.expected_guard(store, value)
                    self.assertIs(is_guard(store, value), expected, value)
                    seen[expected] += 1
        self.assertTrue(min(seen.values()) > 20, seen)

    def expected_guard(self, store, value):
        if type(value) is not tuple or len(value) != 5 or type(value[3]) is not bool:
            return False
        if value[:2] not in all_pairs(store) or type(value[2]) is not tuple or len(value[2]) != 2:
            return False
        if not all(type(name) is str and 1 <= len(name) < 9 and name.isalpha() for name in value[2]):
            return False
        return (expected_reason if value[3] else expected_counter)(store, *value[:3], value[4])


class TestGuardedWrites(unittest.TestCase):
    def setUp(self):
        self.store = TestGuards.STORE.at(0)

    def fails(self, error, guards, **told):
        before, handed = state(self.store), list(guards)
        with self.assertRaises(error) as caught:
            guarded_write(self.store, guards, **told)
        self.assertIs(type(caught.exception), error)
        self.assertEqual(state(self.store), before)
        self.assertEqual([id(one) for one in guards], [id(one) for one in handed])
        return next(iter(vars(caught.exception).values()))

    def test_writes(self):
        yes, no = TestGuards.YES, TestGuards.NO
        for guards in ([], (), [yes], (no,), [yes, no, yes], (no, yes)):
            store = TestGuards.STORE.at(0)
            self.assertEqual(guarded_write(store, guards), 1)
            self.assertEqual(store.rows, TestGuards.STORE.rows)
            self.assertEqual(guarded_write(store, guards, add=rows("doc:z owner user:ann")), 2)
            self.assertEqual(guarded_write(store, guards, remove=tuple(rows("doc:z owner user:ann")), add=rows("doc:y owner user:ann")), 3)
            self.assertEqual(store.rows, sorted([*TestGuards.STORE.rows, *rows("doc:y owner user:ann")]))
        # The write may be what makes a guard fall.
        self.assertEqual(guarded_write(self.store, [yes], remove=rows("doc:a owner user:ann")), 1)
        self.assertEqual(self.fails(BadGuard, [yes], add=rows("doc:a owner user:ann")), 0)
        self.assertEqual(guarded_write(self.store, [no], add=rows("doc:a owner user:ann")), 2)
        self.assertEqual(guarded_write(self.store, [yes]), 3)

    def test_bad_guards(self):
        yes, no = TestGuards.YES, TestGuards.NO
        for number in range(4):
            guards = [yes, no, yes, no]
            for value in [*odd_values(), *deep_values(), list(yes), yes[:4], (*yes[:3], False, yes[4])]:
                guards[number] = value
                self.assertEqual(self.fails(BadGuard, guards), number)
                self.assertEqual(self.fails(BadGuard, tuple(guards), add=rows("doc:z owner user:ann")), number)
                self.assertEqual(self.fails(BadGuard, guards + [None]), number)
        self.assertIs(type(self.fails(BadGuard, [None])), int)

    def test_guards_of_another_version(self):
        yes, no = TestGuards.YES, TestGuards.NO
        self.store.write(remove=rows("doc:a owner user:ann"))
        self.assertEqual(self.fails(BadGuard, [no, yes]), 1)
        self.store.write(add=rows("group:g member user:ann"))
        self.assertEqual(self.fails(BadGuard, [no, yes]), 0)
        self.store.go_back(0)
        self.assertEqual(guarded_write(self.store, [no, yes]), 4)

    def test_errors_of_the_write(self):
        yes, bad = TestGuards.YES, (*TestGuards.YES[:3], False, TestGuards.YES[4])
        there, new, wrong = row("doc:a owner user:ann"), row("doc:z owner user:ann"), row("doc:a owner doc:a")
        many = [row(f"doc:{a}{b} owner user:ann") for a in NAMES[:11] for b in NAMES[:10]]
        for error, told, expected in (
            (BadRow, {"add": [new, wrong, there]}, wrong), (BadRow, {"add": [there], "remove": [None]}, None),
            (TakenRow, {"add": [new, there], "remove": [new]}, there), (UnknownRow, {"remove": [new]}, new),
            (UnknownRow, {"add": [new], "remove": [new]}, new), (TooMany, {"add": many}, 114),
        ):
            for guards in ([], [yes], [yes, yes]):
                self.assertEqual(self.fails(error, guards, **told), expected)
                self.assertEqual(self.fails(BadGuard, [*guards, bad], **told), len(guards))


class TestBadQuestions(unittest.TestCase):
    def test_nothing_is_kept_or_counted(self):
        store = sample_store("doc:a owner user:ann")
        memory = Memory(store)
        right = question("doc:a owner")
        memory.ask(*right)
        before = [state(store), memory.found, memory.known(*right), memory.stands(*right)]
        wrong = [(["doc", "a"], "owner", ANN), (("doc", "a"), "parent", ANN), (("doc", "a"), "member", ANN),
                 (("user", "a"), "owner", ANN), (("doc", "a"), "owner", ("user",)), (("doc", "a"), "owner", list(ANN)),
                 (("doc", "a"), "owner", ("group", "g", "member")), (("doc", "a"), ["owner"], ANN)]
        for value in [*odd_values(), *deep_values(), store, memory]:
            wrong.extend([(value, "owner", ANN), (("doc", "a"), value, ANN), (("doc", "a"), "owner", value), (value, value, value)])
        for asked in wrong:
            for method in (memory.ask, memory.known, memory.stands):
                with self.assertRaises(BadQuestion) as caught:
                    method(*asked)
                self.assertIs(type(caught.exception), BadQuestion)
                self.assertIs(type(caught.exception.value), tuple)
                self.assertEqual(len(caught.exception.value), 3)
                for one, given in zip(caught.exception.value, asked):
                    self.assertIs(one, given)
        self.assertEqual([state(store), memory.found, memory.known(*right), memory.stands(*right)], before)


class TestConventions(unittest.TestCase):
    def test_arguments_by_name(self):
        self.assertEqual(argument_names(Memory), ["store"])
        for method in (Memory.ask, Memory.known, Memory.stands):
            self.assertEqual(argument_names(method), ["self", "thing", "relation", "person"])
        self.assertEqual(argument_names(Memory.forget), ["self"])
        self.assertEqual(argument_names(is_guard), ["store", "value"])
        self.assertEqual(argument_names(guarded_write), ["store", "guards", "add", "remove"])
        self.assertIsInstance(inspect.getattr_static(Memory, "found"), property)
        for one in (Memory, is_guard, guarded_write):
            self.assertEqual(one.__module__, memory_file.__name__)
        store = sample_store("doc:a owner user:ann")
        memory = Memory(store=store)
        self.assertIs(memory.ask(person=ANN, relation="owner", thing=("doc", "a")), True)
        self.assertEqual(memory.known(relation="owner", person=ANN, thing=("doc", "a")), (True, ("row", store.rows[0])))
        self.assertIs(memory.stands(thing=("doc", "a"), person=ANN, relation="owner"), True)
        guard = (*question("doc:a owner"), True, ("row", store.rows[0]))
        self.assertIs(is_guard(value=guard, store=store), True)
        told = {"remove": store.rows, "guards": [guard], "add": rows("doc:b owner user:ann"), "store": store}
        self.assertEqual(guarded_write(**told), 1)
        self.assertEqual(store.rows, rows("doc:b owner user:ann"))

    def test_example(self):
        book = Book({"user": {}, "doc": {"viewer": ((("user",),), ROWS)}})
        store = Store(book)
        memory = Memory(store)
        self.assertIs(memory.ask(("doc", "a"), "viewer", ANN), False)
        store.write(add=[(("doc", "b"), "viewer", ANN)])
        self.assertEqual([memory.ask(("doc", "a"), "viewer", ANN), memory.found], [False, 1])
        self.assertEqual(expected_stands(store, ANN), {(("doc", "b"), "viewer")})


if __name__ == "__main__":
    unittest.main()
