"""Books: right rules, their rings, and the books that they make."""

from sharerules.errors import BadRules, RefusingRing
from sharerules.names import is_name, is_relation, is_row, shape
from sharerules.rules import is_rule, parts

MOST_KINDS = 10
MOST_RELATIONS = 20


def are_rules(value):
    """Whether a value is right rules."""
    if not isinstance(value, dict) or not 1 <= len(value) <= MOST_KINDS:
        return False
    # Names can be looked up only when all that refers to them is of the right form.
    if not all([is_name(kind) and _is_table(value[kind]) for kind in value]):
        return False
    return all([_is_right(value, kind, relation) for kind in value for relation in value[kind]])


def _is_table(value):
    if not isinstance(value, dict) or len(value) > MOST_RELATIONS:
        return False
    return all([is_relation(relation) and _is_definition(value[relation]) for relation in value])


def _is_definition(value):
    if not isinstance(value, tuple) or len(value) != 2:
        return False
    return _are_shapes(value[0]) and (value[1] is None or is_rule(value[1]))


def _are_shapes(value):
    if not isinstance(value, tuple) or not all([_is_shape(item) for item in value]):
        return False
    return all([value[at - 1] < value[at] for at in range(1, len(value))])


def _is_shape(value):
    if not isinstance(value, tuple) or not 1 <= len(value) <= 2:
        return False
    return is_name(value[0]) and (len(value) == 1 or is_relation(value[1]))


def _is_right(rules, kind, relation):
    allowed, rule = rules[kind][relation]
    if not all([_is_allowed(rules, item) for item in allowed]):
        return False
    has_kind = any([len(item) == 1 for item in allowed])
    if rule is None:
        return has_kind and all([len(item) == 1 for item in allowed])
    inner = list(parts(rule))
    needed = ("rows",) in inner
    if has_kind != needed or (len(allowed) > 0) != needed:
        return False
    return all([_is_part_right(rules, kind, part) for part in inner])


def _is_allowed(rules, item):
    if len(item) == 1:
        return item[0] in rules
    return _is_place(rules, item[0], item[1])


def _is_place(rules, kind, relation):
    return kind in rules and relation in rules[kind] and rules[kind][relation][1] is not None


def _is_link(rules, kind, relation):
    return relation in rules[kind] and rules[kind][relation][1] is None


def _is_part_right(rules, kind, part):
    word = part[0]
    if word == "same":
        return _is_place(rules, kind, part[1])
    if word == "but":
        return _is_place(rules, kind, part[2])
    if word == "via":
        return _is_link(rules, kind, part[1]) and len(_places_via(rules, kind, part)) > 0
    return True


def _places_via(rules, kind, part):
    """The places on which a place of the kind hangs by a "via"."""
    allowed = rules[kind][part[1]][0]
    return [(item[0], part[2]) for item in allowed if _is_place(rules, item[0], part[2])]


def _all_steps(rules):
    """For each place, ascending, its steps: (place on which it hangs, is refusing), ascending."""
    places = [(kind, relation) for kind in rules for relation in rules[kind] if _is_place(rules, kind, relation)]
    return {(kind, relation): _steps_of(rules, kind, relation) for kind, relation in sorted(places)}


def _steps_of(rules, kind, relation):
    allowed, rule = rules[kind][relation]
    found = []
    for part in parts(rule):
        word = part[0]
        if word == "rows":
            found.extend([(item, False) for item in allowed if len(item) == 2])
        elif word == "same":
            found.append(((kind, part[1]), False))
        elif word == "via":
            found.extend([(place, False) for place in _places_via(rules, kind, part)])
        elif word == "but":
            found.append(((kind, part[2]), True))
    return sorted(set(found))


def find_ring(rules):
    """The shortest ring of right rules, of several the least list, or None."""
    steps = _all_steps(rules)
    best = None
    # The first places come ascending, so of equally short rings the first one is the least.
    for first in steps:
        ring = _ring_from(steps, first)
        if ring is not None and (best is None or len(ring) < len(best)):
            best = ring
    return best


def _ring_from(steps, first):
    """The shortest ring that begins with a place, of several the least list, or None."""
    before = {place: first for place, refusing in steps[first] if refusing}
    # Steps are ascending, so a place is first met on the least of the shortest walks to it.
    queue = list(before)
    at = 0
    while at < len(queue) and first not in before:
        here = queue[at]
        for place, _ in steps[here]:
            if place not in before:
                before[place] = here
                queue.append(place)
        at += 1
    if first not in before:
        return None
    behind = []
    place = before[first]
    while place != first:
        behind.append(place)
        place = before[place]
    return [first] + behind[::-1]


def _levels_of(steps):
    """The level of each place of sound rules."""
    levels = {place: 0 for place in steps}
    changed = True
    # Without a ring no level can be greater than the number of places, so this ends.
    while changed:
        changed = False
        for place in steps:
            level = max([_level_by(levels, step) for step in steps[place]], default=0)
            if level > levels[place]:
                levels[place] = level
                changed = True
    return levels


def _level_by(levels, step):
    place, refusing = step
    return levels[place] + 1 if refusing else levels[place]


def _copy(rules):
    # Definitions are tuples throughout, so the dicts are all that could be changed.
    return {kind: {relation: rules[kind][relation] for relation in rules[kind]} for kind in rules}


class Book:
    """Right and sound rules: what may stand in rows, and who stands in which relation by them."""

    def __init__(self, rules):
        if not are_rules(rules):
            raise BadRules(rules)
        ring = find_ring(rules)
        if ring is not None:
            raise RefusingRing(ring)
        self._rules = _copy(rules)
        self._steps = _all_steps(rules)
        self._levels = _levels_of(self._steps)

    @property
    def rules(self):
        """The rules, as a new dict."""
        return _copy(self._rules)

    @property
    def kinds(self):
        """The names of all kinds, ascending."""
        return sorted(self._rules)

    def relations(self, kind):
        """The names of all relations of a kind, links included, ascending."""
        return sorted(self._rules[kind])

    def allowed(self, kind, relation):
        """The subjects, without names, that a relation allows."""
        return self._rules[kind][relation][0]

    def rule(self, kind, relation):
        """The rule of a relation, or None for a link."""
        return self._rules[kind][relation][1]

    @property
    def places(self):
        """All places, ascending."""
        return list(self._steps)

    def __contains__(self, value):
        if not isinstance(value, tuple) or len(value) != 2:
            return False
        return is_name(value[0]) and is_relation(value[1]) and value in self._steps

    def hangs(self, place):
        """Yields (place, is refusing) for every place on which a place hangs, ascending."""
        yield from self._steps[place]

    def level(self, place):
        """The level of a place."""
        return self._levels[place]

    def has_row(self, value):
        """Whether a value is a row that is right for this book."""
        if not is_row(value):
            return False
        thing, relation, subject = value
        kind = thing[0]
        if kind not in self._rules or relation not in self._rules[kind]:
            return False
        return shape(subject) in self._rules[kind][relation][0]

    def __eq__(self, other):
        return isinstance(other, Book) and self._rules == other._rules
