"""Grants: who stands in which relation to which object, and the least heights of reasons for it."""

from sharerules.errors import BadQuestion
from sharerules.names import is_object, target
from sharerules.rules import parts
from sharerules.steps import group_steps, link_steps


def is_question(store, thing, relation, person):
    """Whether three values are a question."""
    return is_object(thing) and (thing[0], relation) in store.book and is_object(person)


def check_question(store, thing, relation, person):
    """Raises BadQuestion with the tuple of the three values if it is not a question."""
    if not is_question(store, thing, relation, person):
        raise BadQuestion((thing, relation, person))


def may(store, thing, relation, person):
    """Whether the person stands in the relation to the object."""
    check_question(store, thing, relation, person)
    return (thing, relation) in least_heights(store, person, [(thing, relation)])


def height(store, thing, relation, person):
    """The least height of a reason for a question, or None if there is none."""
    check_question(store, thing, relation, person)
    return least_heights(store, person, [(thing, relation)]).get((thing, relation))


def granted(store, person):
    """The pairs (object, relation), of the objects of rows, in which the person stands, ascending."""
    found = least_heights(store, person, _pairs_of_rows(store))
    return sorted(list(found))


def _pairs_of_rows(store):
    book = store.book
    things = sorted(set([row[0] for row in store.rows]))
    return [(thing, name) for thing in things for name in book.relations(thing[0]) if (thing[0], name) in book]


def least_heights(store, person, pairs):
    """The least height of a reason for each of the pairs (object, relation) for which there is one.

    The pairs that these ones need are among them, too, if there is a reason for them.
    """
    users = _users(store, pairs)
    levels = {pair: store.book.level((pair[0][0], pair[1])) for pair in users}
    found = {}
    # "but" asks who does not stand in a relation: of lower levels this is known for good.
    for level in sorted(set(list(levels.values()))):
        _settle(store, person, users, [pair for pair in users if levels[pair] == level], found)
    return found


def _users(store, pairs):
    """For each of the pairs, and each one that they need, the pairs that need it."""
    users = {pair: [] for pair in pairs}
    queue = list(users)
    at = 0
    while at < len(queue):
        pair = queue[at]
        for need in _needs(store, pair):
            if need not in users:
                users[need] = []
                queue.append(need)
            users[need].append(pair)
        at += 1
    return users


def _needs(store, pair):
    """The pairs on which the answer for a pair may depend."""
    thing, relation = pair
    rule = store.book.rule(thing[0], relation)
    needs = []
    for part in parts(rule):
        word = part[0]
        if word == "rows":
            needs.extend([step[1] for step in group_steps(store, thing, relation)])
        elif word == "same":
            needs.append((thing, part[1]))
        elif word == "via":
            needs.extend([step[1] for step in link_steps(store, thing, part[1], part[2])])
        elif word == "but":
            needs.append((thing, part[2]))
    return needs


def _settle(store, person, users, pairs, found):
    """Puts the least heights of all pairs of one level into found, which has those of lower levels."""
    todo = pairs
    # Each round may find lower reasons for what needs the pairs of the round before.
    while todo:
        woken = {}
        for pair in todo:
            rule = store.book.rule(pair[0][0], pair[1])
            now = rule_height(store, person, found, pair, rule)
            if now is not None and (pair not in found or now < found[pair]):
                found[pair] = now
                for user in users[pair]:
                    woken[user] = True
        todo = [pair for pair in pairs if pair in woken]


def rule_height(store, person, found, pair, rule):
    """The least height of a part for a rule of a pair by the heights found so far, or None."""
    thing, relation = pair
    word = rule[0]
    if word == "rows":
        return _rows_height(store.rows_of(thing, relation), person, found)
    if word == "same":
        return _one_more([found.get((thing, rule[1]))])
    if word == "via":
        return _one_more([found.get((subject, rule[2])) for subject in store.rows_of(thing, rule[1])])
    if word == "but":
        refused = (thing, rule[2]) in found
        return None if refused else rule_height(store, person, found, pair, rule[1])
    heights = [rule_height(store, person, found, pair, part) for part in rule[1:]]
    if word == "or":
        return _least(heights)
    return None if None in heights else max(heights)


def _rows_height(subjects, person, found):
    if person in subjects:
        return 1
    return _one_more([found.get((target(subject), subject[2])) for subject in subjects if len(subject) == 3])


def _least(heights):
    return min([known for known in heights if known is not None], default=None)


def _one_more(heights):
    least = _least(heights)
    return None if least is None else least + 1
