"""Flows: as many ways as possible that share no row, for plain and single books.

Reasons are ways from the pair of the question, step by step, to None, the end. In a single book a row belongs to at
most one step, so ways share no row if none of these steps is taken twice. Steps by "same" have no row, and may be
taken by many ways.
"""

from sharerules.steps import group_steps, link_steps


class Step:
    """A step from a pair to another one, or to the end: what a part adds to the reason within it."""

    def __init__(self, start, end, word, row, numbers):
        self.start = start
        self.end = end
        self.word = word
        self.row = row
        # Where the rule of the step stands in its pair's rule: the numbers of the rules in "or", from the outside.
        self.numbers = numbers

    def part(self, reason):
        """The reason for the pair where the step starts by one for the pair where it ends."""
        made = (self.word,)
        if self.row is not None:
            made = (*made, self.row)
        if self.end is not None:
            made = (*made, reason)
        for number in reversed(self.numbers):
            made = ("or", number, made)
        return made


def _leaves(rule):
    """(numbers, rule) for each rule within a plain rule that is no "or", with the numbers that lead to it."""
    if rule[0] != "or":
        return [((), rule)]
    found = []
    for number, inner in enumerate(rule[1:]):
        found.extend([((number, *leaf[0]), leaf[1]) for leaf in _leaves(inner)])
    return found


def _steps_from(store, person, pair):
    """The steps from a pair."""
    thing, relation = pair
    found = []
    for numbers, rule in _leaves(store.book.rule(thing[0], relation)):
        if rule[0] == "same":
            found.append(Step(pair, (thing, rule[1]), "same", None, numbers))
        elif rule[0] == "via":
            linked = link_steps(store, thing, rule[1], rule[2])
            found.extend([Step(pair, there, "via", row, numbers) for row, there in linked])
        else:
            told = (thing, relation, person)
            if told in store:
                found.append(Step(pair, None, "row", told, numbers))
            groups = group_steps(store, thing, relation)
            found.extend([Step(pair, there, "group", row, numbers) for row, there in groups])
    return found


class Network:
    """All steps that ways for a question can take, and how many ways take each of them."""

    def __init__(self, store, pair, person):
        self._source = pair
        self._steps = []
        self._starting = {pair: []}
        self._ending = {pair: []}
        self._find_steps(store, person)
        self._taken = [0 for _ in self._steps]
        self._take_ways()

    def _find_steps(self, store, person):
        queue = [self._source]
        at = 0
        while at < len(queue):
            for step in _steps_from(store, person, queue[at]):
                if step.end not in self._ending:
                    self._ending[step.end] = []
                    self._starting[step.end] = []
                    if step.end is not None:
                        queue.append(step.end)
                self._starting[step.start].append(len(self._steps))
                self._ending[step.end].append(len(self._steps))
                self._steps.append(step)
            at += 1

    def _take_ways(self):
        """Takes one more way after the other, until there is none: then there are as many as possible."""
        moves = self._moves_to_end(True)
        while moves:
            self._make(moves)
            moves = self._moves_to_end(True)

    def _make(self, moves):
        for number, many in moves:
            self._taken[number] += many

    def _moves_to_end(self, is_free):
        """The moves (number of a step, change) of a shortest walk to the end, from the last to the first, if any."""
        before = self._reached(is_free)
        if None not in before:
            return []
        moves = []
        there = None
        while there != self._source:
            there, number, many = before[there]
            moves.append((number, many))
        return moves

    def _reached(self, is_free):
        """Whatever is reached from the first pair by free moves, or by taken steps: (pair before, number, change)."""
        before = {self._source: None}
        queue = [self._source]
        at = 0
        while at < len(queue):
            here = queue[at]
            moves = self._free_moves(here) if is_free else self._taken_moves(here)
            for there, number, many in moves:
                if there not in before:
                    before[there] = (here, number, many)
                    queue.append(there)
            at += 1
        return before

    def _free_moves(self, pair):
        """Steps that one more way may take, and steps that it may take back from a way that then goes on by it."""
        found = []
        for number in self._starting[pair]:
            step = self._steps[number]
            if step.row is None or self._taken[number] == 0:
                found.append((step.end, number, 1))
        for number in self._ending[pair]:
            if self._taken[number] > 0:
                found.append((self._steps[number].start, number, -1))
        return found

    def _taken_moves(self, pair):
        """Steps that ways take, to be given back."""
        numbers = [number for number in self._starting[pair] if self._taken[number] > 0]
        return [(self._steps[number].end, number, -1) for number in numbers]

    def cut(self):
        """The rows of a least cut, ascending: those by which one leaves what one more way could reach."""
        reached = self._reached(True)
        leaving = [step for step in self._steps if step.start in reached and step.end not in reached]
        return sorted([step.row for step in leaving])

    def reasons(self):
        """As many reasons as possible that share no row."""
        kept = list(self._taken)
        found = []
        moves = self._moves_to_end(False)
        while moves:
            self._make(moves)
            reason = None
            for number, _ in moves:
                reason = self._steps[number].part(reason)
            found.append(reason)
            moves = self._moves_to_end(False)
        self._taken = kept
        return found
