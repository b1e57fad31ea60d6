"""What holds over the whole of the program ([1], [8] to [17], [19])."""

import random
import unittest

from oracle import all_pairs
from papers import counters_in, rows_in
from samples import STEADY_WORDS, alike_books, mixed_stores, random_stores, right_rows, single_stores
from sharerules.books import Book
from sharerules.checks import is_counter, is_reason, reason_height, reason_rows
from sharerules.compare import equal_table, layers, parting_way
from sharerules.grants import granted, height, may
from sharerules.lists import critical, effects
from sharerules.memory import Memory, guarded_write, is_guard
from sharerules.reasons import answer_with, first_counter, first_reason
from sharerules.store import Store
from sharerules.texts import read_book, read_store, store_text
from sharerules.ways import barrier, ground, is_cut, least_cut, separate_reasons


def persons_in(store):
    return sorted({one[2] for one in store.rows if len(one[2]) == 2})


def questions_of(store):
    return [(*pair, person) for pair in all_pairs(store) for person in [*persons_in(store), ("user", "no")]]


def papers_of(store, questions):
    return [answer_with(store, *question) for question in questions]


def stores(seed):
    return [*random_stores(seed, 25, many=14), *mixed_stores(seed + 1, 15)]


class TestAnswers(unittest.TestCase):
    def test_each_question_has_exactly_one_answer_and_paper(self):
        for store in stores(71):
            for question in questions_of(store):
                answer, reason, counter = may(store, *question), first_reason(store, *question), first_counter(store, *question)
                self.assertEqual([reason is None, counter is None], [not answer, answer])
                self.assertEqual(answer_with(store, *question), (answer, reason if answer else counter))
                for paper in (reason, counter):
                    self.assertIs(is_reason(store, *question, paper), answer and paper == reason)
                    self.assertIs(is_counter(store, *question, paper), not answer and paper == counter)
                self.assertEqual(height(store, *question), reason_height(reason) if answer else None)
                self.assertIs(question[:2] in granted(store, question[2]), answer)


class TestSameRows(unittest.TestCase):
    def test_stores_with_the_same_rows(self):
        dice = random.Random(72)
        for store in stores(73):
            questions = questions_of(store)
            dice.shuffle(questions)
            told = papers_of(store, questions)
            hanging = [critical(store, *question) for question in questions[:5]]
            for other in self.others(dice, store):
                self.assertIs(other.same(store), True)
                self.assertEqual(papers_of(other, questions), told)
                self.assertEqual([critical(other, *question) for question in questions[:5]], hanging)

    def others(self, dice, store):
        """A new store, one read from the text, one of an earlier version, one gone back, and one built row by row."""
        mixed = dice.sample(store.rows, len(store))
        yield Store(store.book, rows=mixed)
        yield read_store(store_text(store))
        later = Store(store.book, rows=mixed)
        later.write(remove=mixed[:len(mixed) // 2])
        yield later.at(0)
        later.go_back(0)
        yield later
        built = Store(store.book)
        for one in mixed:
            built.write(add=[one])
        yield built


class TestFurtherRows(unittest.TestCase):
    def test_without_but_further_rows_take_nothing_away(self):
        dice = random.Random(74)
        for store in random_stores(75, 40, words=STEADY_WORDS, many=16):
            questions = questions_of(store)
            told = papers_of(store, questions)
            free = [one for one in right_rows(store.book, ("x", "y", "z", "new")) if one not in store]
            store.write(add=dice.sample(free, min(6, len(free))))
            for question, (answer, paper) in zip(questions, told):
                if answer:
                    self.assertIs(may(store, *question), True)
                    self.assertIs(is_reason(store, *question, paper), True)
                    self.assertLessEqual(height(store, *question), reason_height(paper))

    def test_rows_that_tell_other_persons(self):
        for store in stores(76):
            questions = questions_of(store)
            told = papers_of(store, questions)
            names = sorted({one[0][1] for one in store.rows})
            more = [(*one[:2], (one[2][0], "other")) for one in right_rows(store.book, names)
                    if len(one[2]) == 2 and one[:2] and store.book.rule(one[0][0], one[1]) is not None]
            hanging = [critical(store, *question) for question in questions[:4]]
            store.write(add=sorted(set(more))[:100 - len(store)])
            self.assertEqual(papers_of(store, questions), told)
            self.assertEqual([critical(store, *question) for question in questions[:4]], hanging)

    def test_rows_of_objects_of_other_names(self):
        dice = random.Random(77)
        for store in stores(78):
            questions = questions_of(store)
            told = papers_of(store, questions)
            more = [((one[0][0], "other"), *one[1:]) for one in right_rows(store.book, ("x", "y", "p", "q", "other"))]
            hanging = [critical(store, *question) for question in questions[:4]]
            more = sorted(set(more))
            store.write(add=dice.sample(more, min(40, len(more))))
            self.assertEqual(papers_of(store, questions), told)
            self.assertEqual([critical(store, *question) for question in questions[:4]], hanging)


class TestEffects(unittest.TestCase):
    def test_the_effects_of_two_writes_add_up(self):
        dice = random.Random(79)
        for store in stores(80):
            free = [one for one in right_rows(store.book, ("x", "y", "p", "q")) if one not in store]
            add, remove = dice.sample(free, min(6, len(free))), dice.sample(store.rows, len(store) // 2)
            first = {"add": add[:3], "remove": remove[::2]}
            second = {"add": add[3:], "remove": remove[1::2]}
            together = effects(store, add=add, remove=remove)
            one = effects(store, **first)
            store.write(**first)
            two = effects(store, **second)
            store.write(**second)
            gained, lost = set(one[0]) - set(two[1]), set(one[1]) - set(two[0])
            gained |= set(two[0]) - set(one[1])
            lost |= set(two[1]) - set(one[0])
            self.assertEqual(together, (sorted(gained), sorted(lost)))
            # Going back turns them about.
            back = effects(store, add=remove, remove=add)
            self.assertEqual(back, (together[1], together[0]))
            store.go_back(0)
            self.assertEqual(effects(store, add=add, remove=remove), together)


class TestWhatStaysAsItIs(unittest.TestCase):
    def used_and_looked_at(self, answer, paper):
        """The rows that a paper uses, and the pairs that its counter-reasons refuse."""
        used, looked = set(), set()
        counters = counters_in(paper) if answer else [paper]
        used |= rows_in(paper) if answer else set()
        while counters:
            refused, told = counters.pop()
            looked |= set(refused)
            for _, reason in told:
                used |= rows_in(reason)
                counters.extend(counters_in(reason))
        return used, looked

    def links_of(self, book, thing):
        return [name for name in book.relations(thing[0]) if book.rule(thing[0], name) is None]

    def test_what_it_does_not_hang_on_may_change(self):
        dice = random.Random(81)
        many = {True: 0, False: 0}
        for store in [*stores(82), *mixed_stores(83, 30)]:
            questions = questions_of(store)
            for question in dice.sample(questions, min(8, len(questions))):
                answer, paper = answer_with(store, *question)
                used, looked = self.used_and_looked_at(answer, paper)
                # Of the objects that are looked at, the rows of the relations themselves and of all links stay.
                kept = looked | {(thing, link) for thing, _ in looked for link in self.links_of(store.book, thing)}
                free = [one for one in right_rows(store.book, ("x", "y", "p", "q")) if one not in store and one[:2] not in kept]
                gone = [one for one in store.rows if one not in used and one[:2] not in kept]
                memory = Memory(store)
                memory.ask(*question)
                told = {"add": dice.sample(free, min(6, len(free))), "remove": dice.sample(gone, len(gone) * 2 // 3)}
                guarded_write(store, [(*question, answer, paper)], **told)
                self.assertIs((is_reason if answer else is_counter)(store, *question, paper), True)
                self.assertEqual([memory.stands(*question), memory.ask(*question), memory.found], [True, answer, 1])
                self.assertEqual(memory.known(*question), (answer, paper))
                self.assertIs(is_guard(store, (*question, answer, paper)), True)
                many[answer] += len(told["add"]) + len(told["remove"]) > 0
                store.go_back(0)
        self.assertTrue(min(many.values()) > 50, many)


class TestCuts(unittest.TestCase):
    def test_without_a_row(self):
        found = 0
        for store in single_stores(84, 40):
            person = (store.book.kinds[0], "p")
            for pair in all_pairs(store):
                cut = least_cut(store, *pair, person)
                found += len(cut) > 1
                if len(cut) < 2 and found % 5:
                    continue
                scratch = store.at(0)
                for one in store.rows:
                    scratch.write(remove=[one])
                    other = least_cut(scratch, *pair, person)
                    if one in cut:
                        self.assertEqual(len(other), len(cut) - 1)
                    else:
                        self.assertIn(len(other), (len(cut) - 1, len(cut)))
                    self.assertEqual(len(separate_reasons(scratch, *pair, person)), len(other))
                    scratch.write(add=[one])
        self.assertGreater(found, 20)

    def test_ground_and_barrier(self):
        found = 0
        for store in random_stores(85, 50, words=STEADY_WORDS, many=16):
            for question in questions_of(store)[::3]:
                if not may(store, *question):
                    continue
                found += 1
                base, wall = ground(store, *question), barrier(store, *question)
                alone = Store(store.book, rows=base)
                self.assertEqual(reason_rows(first_reason(alone, *question)), base)
                self.assertEqual(critical(alone, *question), base)
                self.assertTrue(set(base) & set(wall))
                self.assertTrue(set(reason_rows(first_reason(store, *question))) & set(wall))
                self.assertIs(is_cut(store, *question, wall), True)
                for one in wall:
                    self.assertIs(is_cut(store, *question, [other for other in wall if other != one]), False)
                self.assertTrue(set(critical(store, *question)) <= set(base))
        self.assertGreater(found, 50)


class TestBooks(unittest.TestCase):
    def test_books_for_which_a_table_or_a_way_is_told(self):
        dice = random.Random(86)
        found = {True: 0, False: 0}
        for at in range(60):
            first, second = alike_books(dice, mixed=at % 2 == 0)
            every = right_rows(first, ("x", "y", "z"))
            given = [dice.sample(every, min(len(every), dice.randint(1, 25))) for _ in range(3)]
            for place in first.places:
                way = parting_way(first, second, place)
                found[way is None] += 1
                self.assertIs(equal_table(first, second, place) is None, way is not None)
                if way is None:
                    for some in given:
                        self.check_equal(Store(first, rows=some), Store(second, rows=some), place)
                else:
                    answers = [may(Store(book, rows=way), way[0][0], place[1], way[-1][2]) for book in (first, second)]
                    self.assertEqual(sorted(answers), [False, True])
                    self.assertEqual(len(layers(first, second, place)), len(way))
        self.assertTrue(min(found.values()) > 30, found)

    def check_equal(self, one, two, place):
        for person in persons_in(one):
            for name in "xyz":
                question = ((place[0], name), place[1], person)
                self.assertIs(may(one, *question), may(two, *question))

    def test_a_book_that_is_read_is_equal_for_all_places(self):
        dice = random.Random(87)
        for _ in range(30):
            first, second = alike_books(dice)
            other = read_book(store_text(Store(first)).rstrip())
            self.assertEqual(other, first)
            for place in first.places:
                self.assertIs(parting_way(first, other, place), None)
                self.assertEqual(equal_table(second, Book(second.rules), place), equal_table(second, second, place))


if __name__ == "__main__":
    unittest.main()
