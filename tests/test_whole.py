"""What holds over the whole of the program ([1], [8] to [17], [19])."""

import random
import unittest

from oracle import all_pairs
from samples import STEADY_WORDS, mixed_stores, random_stores, right_rows
from sharerules.checks import is_counter, is_reason, reason_height
from sharerules.grants import granted, height, may
from sharerules.lists import critical, effects
from sharerules.reasons import answer_with, first_counter, first_reason
from sharerules.store import Store
from sharerules.texts import read_store, store_text


def persons_in(store):
    return sorted({one[2] for one in store.rows if len(one[2]) == 2})


def questions_of(store):
    return [(*pair, person) for pair in all_pairs(store) for person in [*persons_in(store), ("user", "no")]]


def papers_of(store, questions):
    return [answer_with(store, *question) for question in questions]


def stores(seed):
    return [*random_stores(seed, 25, many=14), *mixed_stores(seed + 1, 15)]


class TestAnswers(unittest.TestCase):
    def test_each_question_has_exactly_one_answer_and_paper(self):
        for store in stores(71):
            for question in questions_of(store):
                answer, reason, counter = may(store, *question), first_reason(store, *question), first_counter(store, *question)
                self.assertEqual([reason is None, counter is None], [not answer, answer])
                self.assertEqual(answer_with(store, *question), (answer, reason if answer else counter))
                for paper in (reason, counter):
                    self.assertIs(is_reason(store, *question, paper), answer and paper == reason)
                    self.assertIs(is_counter(store, *question, paper), not answer and paper == counter)
                self.assertEqual(height(store, *question), reason_height(reason) if answer else None)
                self.assertIs(question[:2] in granted(store, question[2]), answer)


class TestSameRows(unittest.TestCase):
    def test_stores_with_the_same_rows(self):
        dice = random.Random(72)
        for store in stores(73):
            questions = questions_of(store)
            dice.shuffle(questions)
            told = papers_of(store, questions)
            hanging = [critical(store, *question) for question in questions[:5]]
            for other in self.others(dice, store):
                self.assertIs(other.same(store), True)
                self.assertEqual(papers_of(other, questions), told)
                self.assertEqual([critical(other, *question) for question in questions[:5]], hanging)

    def others(self, dice, store):
        """A new store, one read from the text, one of an earlier version, one gone back, and one built row by row."""
        mixed = dice.sample(store.rows, len(store))
        yield Store(store.book, rows=mixed)
        yield read_store(store_text(store))
        later = Store(store.book, rows=mixed)
        later.write(remove=mixed[:len(mixed) // 2])
        yield later.at(0)
        later.go_back(0)
        yield later
        built = Store(store.book)
        for one in mixed:
            built.write(add=[one])
        yield built


class TestFurtherRows(unittest.TestCase):
    def test_without_but_further_rows_take_nothing_away(self):
        dice = random.Random(74)
        for store in random_stores(75, 40, words=STEADY_WORDS, many=16):
            questions = questions_of(store)
            told = papers_of(store, questions)
            free = [one for one in right_rows(store.book, ("x", "y", "z", "new")) if one not in store]
            store.write(add=dice.sample(free, min(6, len(free))))
            for question, (answer, paper) in zip(questions, told):
                if answer:
                    self.assertIs(may(store, *question), True)
                    self.assertIs(is_reason(store, *question, paper), True)
                    self.assertLessEqual(height(store, *question), reason_height(paper))

    def test_rows_that_tell_other_persons(self):
        for store in stores(76):
            questions = questions_of(store)
            told = papers_of(store, questions)
            names = sorted({one[0][1] for one in store.rows})
            more = [(*one[:2], (one[2][0], "other")) for one in right_rows(store.book, names)
                    if len(one[2]) == 2 and one[:2] and store.book.rule(one[0][0], one[1]) is not None]
            hanging = [critical(store, *question) for question in questions[:4]]
            store.write(add=sorted(set(more))[:100 - len(store)])
            self.assertEqual(papers_of(store, questions), told)
            self.assertEqual([critical(store, *question) for question in questions[:4]], hanging)

    def test_rows_of_objects_of_other_names(self):
        dice = random.Random(77)
        for store in stores(78):
            questions = questions_of(store)
            told = papers_of(store, questions)
            more = [((one[0][0], "other"), *one[1:]) for one in right_rows(store.book, ("x", "y", "p", "q", "other"))]
            hanging = [critical(store, *question) for question in questions[:4]]
            more = sorted(set(more))
            store.write(add=dice.sample(more, min(40, len(more))))
            self.assertEqual(papers_of(store, questions), told)
            self.assertEqual([critical(store, *question) for question in questions[:4]], hanging)


class TestEffects(unittest.TestCase):
    def test_the_effects_of_two_writes_add_up(self):
        dice = random.Random(79)
        for store in stores(80):
            free = [one for one in right_rows(store.book, ("x", "y", "p", "q")) if one not in store]
            add, remove = dice.sample(free, min(6, len(free))), dice.sample(store.rows, len(store) // 2)
            first = {"add": add[:3], "remove": remove[::2]}
            second = {"add": add[3:], "remove": remove[1::2]}
            together = effects(store, add=add, remove=remove)
            one = effects(store, **first)
            store.write(**first)
            two = effects(store, **second)
            store.write(**second)
            gained, lost = set(one[0]) - set(two[1]), set(one[1]) - set(two[0])
            gained |= set(two[0]) - set(one[1])
            lost |= set(two[1]) - set(one[0])
            self.assertEqual(together, (sorted(gained), sorted(lost)))
            # Going back turns them about.
            back = effects(store, add=remove, remove=add)
            self.assertEqual(back, (together[1], together[0]))
            store.go_back(0)
            self.assertEqual(effects(store, add=add, remove=remove), together)


if __name__ == "__main__":
    unittest.main()
