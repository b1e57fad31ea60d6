"""Reasons: the first reasons and the first counter-reasons."""

from sharerules.grants import check_question, least_heights, rule_height
from sharerules.steps import group_steps, link_steps


def first_reason(store, thing, relation, person):
    """The first reason for a question, or None if there is none."""
    papers = _papers_for(store, thing, relation, person)
    return papers.reason() if papers.answer() else None


def first_counter(store, thing, relation, person):
    """The first counter-reason for a question, or None if there is none."""
    papers = _papers_for(store, thing, relation, person)
    return None if papers.answer() else papers.counter()


def answer_with(store, thing, relation, person):
    """(True, first reason) or (False, first counter-reason) for a question."""
    papers = _papers_for(store, thing, relation, person)
    return (True, papers.reason()) if papers.answer() else (False, papers.counter())


def _papers_for(store, thing, relation, person):
    check_question(store, thing, relation, person)
    return Papers(store, person, (thing, relation))


class Papers:
    """The first reason or counter-reason for a person and a pair (object, relation), and the reasons within it."""

    def __init__(self, store, person, pair):
        self._store = store
        self._person = person
        self._pair = pair
        self._heights = least_heights(store, person, [pair])
        self._reasons = {}
        self._missing = []

    def answer(self):
        """Whether the person stands in the pair."""
        return self._pair in self._heights

    def reason(self):
        """The first reason, if the person stands in the pair."""
        self._make([self._pair])
        return self._reasons[self._pair]

    def counter(self):
        """The first counter-reason, if the person does not stand in the pair."""
        self._missing = []
        self._counter(self._pair)
        self._make(self._missing)
        return self._counter(self._pair)

    def _make(self, pairs):
        """Makes the first reasons for pairs in which the person stands."""
        todo = list(pairs)
        # Reasons can be nested deeper than calls may be, so a reason waits in a list until those within it are made.
        while todo:
            pair = todo[-1]
            self._missing = []
            made = self._part(pair, self._rule(pair))
            if self._missing:
                todo.extend(self._missing)
            else:
                self._reasons[pair] = made
                todo.pop()

    def _reason(self, pair):
        """The first reason for a pair; if it is not yet made, the pair becomes a missing one."""
        if pair not in self._reasons:
            self._missing.append(pair)
        return self._reasons.get(pair)

    def _rule(self, pair):
        return self._store.book.rule(pair[0][0], pair[1])

    def _height(self, pair, rule):
        return rule_height(self._store, self._person, self._heights, pair, rule)

    def _part(self, pair, rule):
        """The first part for a rule of a pair that holds."""
        thing, relation = pair
        word = rule[0]
        if word == "rows":
            row = (thing, relation, self._person)
            if row in self._store:
                return ("row", row)
            return self._step("group", group_steps(self._store, thing, relation))
        if word == "same":
            return ("same", self._reason((thing, rule[1])))
        if word == "via":
            return self._step("via", link_steps(self._store, thing, rule[1], rule[2]))
        if word == "or":
            heights = [self._height(pair, part) for part in rule[1:]]
            number = heights.index(min([known for known in heights if known is not None]))
            return ("or", number, self._part(pair, rule[number + 1]))
        if word == "and":
            return ("and", *[self._part(pair, part) for part in rule[1:]])
        return ("but", self._part(pair, rule[1]), self._counter((thing, rule[2])))

    def _step(self, word, steps):
        """The part by the first one of the steps that lead to where the least height is the least."""
        known = [step for step in steps if step[1] in self._heights]
        least = min([self._heights[step[1]] for step in known])
        row, pair = [step for step in known if self._heights[step[1]] == least][0]
        return (word, row, self._reason(pair))

    def _counter(self, pair):
        """The first counter-reason for a pair in which the person does not stand."""
        refused = [pair]
        there = {pair: True}
        granted = {}
        at = 0
        while at < len(refused):
            here = refused[at]
            for need in self._needs(here, self._rule(here)):
                if need in self._heights:
                    granted[need] = True
                elif need not in there:
                    there[need] = True
                    refused.append(need)
            at += 1
        return (tuple(refused), tuple([(one, self._reason(one)) for one in sorted(granted)]))

    def _needs(self, pair, rule):
        """The pairs that a rule of a pair that does not hold needs: to be refused, or, where "but" refuses, granted."""
        thing, relation = pair
        word = rule[0]
        if word == "rows":
            return [step[1] for step in group_steps(self._store, thing, relation)]
        if word == "same":
            return [(thing, rule[1])]
        if word == "via":
            return [step[1] for step in link_steps(self._store, thing, rule[1], rule[2])]
        if word == "or":
            needs = []
            for part in rule[1:]:
                needs.extend(self._needs(pair, part))
            return needs
        if word == "and":
            failing = [part for part in rule[1:] if self._height(pair, part) is None]
            return self._needs(pair, failing[0])
        fails = self._height(pair, rule[1]) is None
        return self._needs(pair, rule[1]) if fails else [(thing, rule[2])]
