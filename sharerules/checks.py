"""Checks: whether values are reasons or counter-reasons, and the heights and rows of reasons.

A claim is a tuple (pair, rule, value): the value is a part for the rule of the pair (object, relation), or,
where None stands for the rule, a counter-reason for the pair.
"""

from sharerules.grants import is_question
from sharerules.names import is_object, target
from sharerules.steps import group_steps, link_steps


def is_reason(store, thing, relation, person, value):
    """Whether a value is a reason for a question."""
    if not is_question(store, thing, relation, person):
        return False
    return _is_right(store, person, _reason_claim(store, (thing, relation), value))


def is_counter(store, thing, relation, person, value):
    """Whether a value is a counter-reason for a question."""
    if not is_question(store, thing, relation, person):
        return False
    return _is_right(store, person, ((thing, relation), None, value))


def _reason_claim(store, pair, value):
    """The claim that a value is a reason for a pair."""
    return (pair, store.book.rule(pair[0][0], pair[1]), value)


def _is_right(store, person, claim):
    """Whether a claim holds, and all claims within it."""
    todo = [claim]
    # Values can be nested deeper than calls may be, so the claims that are left wait in a list. The last one is
    # taken first: a value that is wrong deep within is found out without a look at all that stands beside it.
    while todo:
        pair, rule, value = todo.pop()
        if rule is None:
            within = _within_counter(store, person, pair, value)
        else:
            within = _within_part(store, person, pair, rule, value)
        if within is None:
            return False
        todo.extend(within)
    return True


def _within_part(store, person, pair, rule, value):
    """The claims within a value that is claimed to be a part, or None if it is none in any case."""
    if not isinstance(value, tuple) or len(value) < 2:
        return None
    word = rule[0]
    if word == "rows":
        return _within_rows(store, person, pair, value)
    if value[0] != word:
        return None
    if word == "same":
        return [_reason_claim(store, (pair[0], rule[1]), value[1])] if len(value) == 2 else None
    if word == "and":
        return _within_and(pair, rule, value)
    if len(value) != 3:
        return None
    if word == "or":
        return _within_or(pair, rule, value)
    if word == "via":
        return _within_via(store, pair, rule, value)
    return [(pair, rule[1], value[1]), ((pair[0], rule[2]), None, value[2])]


def _within_rows(store, person, pair, value):
    row = value[1]
    if row not in store or (row[0], row[1]) != pair:
        return None
    subject = row[2]
    if value[0] == "row":
        return [] if len(value) == 2 and subject == person else None
    if value[0] == "group" and len(value) == 3 and len(subject) == 3:
        return [_reason_claim(store, (target(subject), subject[2]), value[2])]
    return None


def _within_and(pair, rule, value):
    if len(value) != len(rule):
        return None
    return [(pair, rule[at], value[at]) for at in range(1, len(rule))]


def _within_or(pair, rule, value):
    number = value[1]
    if isinstance(number, bool) or not isinstance(number, int) or not 0 <= number < len(rule) - 1:
        return None
    return [(pair, rule[number + 1], value[2])]


def _within_via(store, pair, rule, value):
    row = value[1]
    if row not in store or (row[0], row[1]) != (pair[0], rule[1]):
        return None
    there = (row[2], rule[2])
    if (there[0][0], there[1]) not in store.book:
        return None
    return [_reason_claim(store, there, value[2])]


def _within_counter(store, person, pair, value):
    """The claims within a value that is claimed to be a counter-reason, or None if it is none in any case."""
    if not isinstance(value, tuple) or len(value) != 2:
        return None
    if not _are_pairs(store.book, value[0]) or not _are_granted(store.book, value[1]):
        return None
    refused = {one: True for one in value[0]}
    granted = {entry[0]: True for entry in value[1]}
    if pair not in refused:
        return None
    for one in refused:
        rule = store.book.rule(one[0][0], one[1])
        if not _is_refused(store, person, one, rule, refused, granted):
            return None
    return [_reason_claim(store, entry[0], entry[1]) for entry in value[1]]


def _are_pairs(book, value):
    """Whether a value is a tuple of different pairs (object, relation) with a place for each."""
    if not isinstance(value, tuple) or not all([_is_pair(book, item) for item in value]):
        return False
    return len(set(value)) == len(value)


def _is_pair(book, value):
    if not isinstance(value, tuple) or len(value) != 2 or not is_object(value[0]):
        return False
    return (value[0][0], value[1]) in book


def _are_granted(book, value):
    """Whether a value is a tuple of tuples (pair, any value) with different pairs."""
    if not isinstance(value, tuple):
        return False
    if not all([isinstance(entry, tuple) and len(entry) == 2 for entry in value]):
        return False
    return _are_pairs(book, tuple([entry[0] for entry in value]))


def _is_refused(store, person, pair, rule, refused, granted):
    """Whether a rule of a pair is refused by the pairs that are refused and granted."""
    thing, relation = pair
    word = rule[0]
    if word == "rows":
        told = (thing, relation, person) in store
        return not told and all([step[1] in refused for step in group_steps(store, thing, relation)])
    if word == "same":
        return (thing, rule[1]) in refused
    if word == "via":
        return all([step[1] in refused for step in link_steps(store, thing, rule[1], rule[2])])
    if word == "but":
        return (thing, rule[2]) in granted or _is_refused(store, person, pair, rule[1], refused, granted)
    inner = [_is_refused(store, person, pair, part, refused, granted) for part in rule[1:]]
    return all(inner) if word == "or" else any(inner)


def reason_height(value):
    """The height of a reason."""
    highest = 1
    todo = [(value, 1)]
    while todo:
        part, steps = todo.pop()
        # Each step to another question makes all that stands above it 1 higher.
        below = steps + 1 if part[0] in ("group", "same", "via") else steps
        highest = max(highest, below)
        todo.extend([(inner, below) for inner in _inner_parts(part)])
    return highest


def reason_rows(value):
    """The different rows in a reason, without those in its counter-reasons, ascending."""
    found = []
    todo = [value]
    while todo:
        part = todo.pop()
        if part[0] in ("row", "group", "via"):
            found.append(part[1])
        todo.extend(_inner_parts(part))
    return sorted(set(found))


def _inner_parts(part):
    """The parts and reasons within a part, its counter-reason not among them."""
    word = part[0]
    if word == "row":
        return []
    if word == "same" or word == "but":
        return [part[1]]
    if word == "and":
        return list(part[1:])
    return [part[2]]
