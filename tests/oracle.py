"""What the document tells, worked out once more: slowly, and in other ways than the program does it."""

import re

NAME = re.compile("[a-z]{1,8}")
NO_RELATIONS = {"or", "and", "via", "but", "not", "rows"}


class Wrong(Exception):
    """A value is not right rules."""


def need(holds):
    if not holds:
        raise Wrong


def right_name(value):
    return type(value) is str and NAME.fullmatch(value) is not None


def right_relation(value):
    return right_name(value) and value not in NO_RELATIONS


def expected_right(value):
    """Whether a value is right rules ([6])."""
    try:
        need(type(value) is dict and len(value) in range(1, 11))
        for kind, table in value.items():
            need(right_name(kind) and type(table) is dict and len(table) in range(21))
            for relation, definition in table.items():
                need(right_relation(relation))
                check_form(definition)
        links = {(k, r) for k, table in value.items() for r, definition in table.items() if definition[1] is None}
        known = {(k, r) for k, table in value.items() for r in table} - links
        for kind, table in value.items():
            for allowed, rule in table.values():
                check_allowed(value, known, allowed, rule)
                if rule is not None:
                    check_rule(value, links, known, kind, rule)
    except Wrong:
        return False
    return True


def check_form(definition):
    need(type(definition) is tuple and len(definition) == 2 and type(definition[0]) is tuple)
    for item in definition[0]:
        need(type(item) is tuple and len(item) in (1, 2) and right_name(item[0]))
        need(len(item) == 1 or right_relation(item[1]))
    need(list(definition[0]) == sorted(set(definition[0])))


def check_allowed(value, known, allowed, rule):
    kinds = [item for item in allowed if len(item) == 1]
    for item in allowed:
        need(item[0] in value and (item in kinds or item in known))
    if rule is None:
        need(kinds and kinds == list(allowed))
        return
    need(type(rule) is tuple)
    if uses_rows(rule):
        need(kinds)
    else:
        need(not allowed)


def uses_rows(rule):
    return rule == ("rows",) or (
        type(rule) is tuple and rule[:1] in (("or",), ("and",), ("but",)) and any(uses_rows(part) for part in rule[1:]))


def check_rule(value, links, known, kind, rule, depth=5):
    need(depth > 0 and type(rule) is tuple and len(rule) > 0)
    if rule == ("rows",):
        return
    if rule[0] == "same":
        need(len(rule) == 2 and right_relation(rule[1]) and (kind, rule[1]) in known)
    elif rule[0] == "via":
        need(len(rule) == 3 and right_relation(rule[1]) and right_relation(rule[2]) and (kind, rule[1]) in links)
        need(any((item[0], rule[2]) in known for item in value[kind][rule[1]][0]))
    elif rule[0] == "but":
        need(len(rule) == 3 and right_relation(rule[2]) and (kind, rule[2]) in known)
        check_rule(value, links, known, kind, rule[1], depth - 1)
    else:
        need(rule[0] in ("or", "and") and len(rule) > 2)
        for part in rule[1:]:
            check_rule(value, links, known, kind, part, depth - 1)


def places_of(rules):
    return sorted((k, r) for k, table in rules.items() for r, definition in table.items() if definition[1] is not None)


def expected_hangs(rules, place):
    """All (place, is refusing) on which a place hangs ([7])."""
    kind, relation = place
    known = places_of(rules)
    found = set()

    def visit(rule):
        if rule[0] == "rows":
            found.update((item, False) for item in rules[kind][relation][0] if len(item) == 2)
        if rule[0] == "same":
            found.add(((kind, rule[1]), False))
        if rule[0] == "via":
            found.update(((item[0], rule[2]), False) for item in rules[kind][rule[1]][0] if (item[0], rule[2]) in known)
        if rule[0] == "but":
            found.add(((kind, rule[2]), True))
        if rule[0] in ("or", "and", "but"):
            for part in rule[1:]:
                if type(part) is tuple:
                    visit(part)

    visit(rules[kind][relation][1])
    return sorted(found)


def is_ring(rules, ring):
    hangs = [expected_hangs(rules, place) for place in ring]
    if not ring or (ring[1 % len(ring)], True) not in hangs[0]:
        return False
    return all({(ring[(at + 1) % len(ring)], refusing) for refusing in (False, True)} & set(hangs[at])
               for at in range(len(ring)))


def expected_ring(rules):
    """The first ring among all lists of places, tried by their lengths and then ascending."""
    table = {place: expected_hangs(rules, place) for place in places_of(rules)}
    refusing = {(place, other) for place in table for other, refuses in table[place] if refuses}
    plain = {place: sorted({other for other, _ in table[place]}) for place in table}

    def lists(ring, length):
        if len(ring) == length:
            return ring if ring[0] in plain[ring[-1]] and (ring[0], ring[1 % length]) in refusing else None
        for place in plain[ring[-1]]:
            found = lists(ring + [place], length)
            if found:
                return found
        return None

    for length in range(1, len(table) + 1):
        for place in sorted(table):
            found = lists([place], length)
            if found:
                return found
    return None


def expected_level(rules, place):
    return expected_levels(rules)[place]


LEVELS = {}


def expected_levels(rules):
    """For each place the greatest number of refusing steps in a walk of any length that matters."""
    # Levels take long, and are asked for again and again.
    key = repr(rules)
    if key not in LEVELS:
        LEVELS[key] = work_out_levels(rules)
    return LEVELS[key]


def work_out_levels(rules):
    table = {one: expected_hangs(rules, one) for one in places_of(rules)}
    most = {one: 0 for one in table}
    for _ in range(len(table) ** 2 + 1):
        most = {one: max([0, *[most[other] + refuses for other, refuses in table[one]]]) for one in table}
    return most


def all_pairs(store, more=()):
    """All pairs (object, relation) of the objects in rows and of some more, the relation no link."""
    things = {row[0] for row in store.rows} | {row[2][:2] for row in store.rows} | set(more)
    return sorted((thing, r) for thing in things for k, r in places_of(store.book.rules) if k == thing[0])


def expected_stands(store, person, more=()):
    """The pairs in which a person stands: the least sets, level by level ([8])."""
    rules = store.book.rules
    pairs = all_pairs(store, more)
    by_place = expected_levels(rules)
    levels = {(first, relation): by_place[first[0], relation] for first, relation in pairs}
    stands = set()

    def holds(rule, thing, relation):
        subjects = [row[2] for row in store.rows if row[:2] == (thing, relation)]
        if rule[0] == "rows":
            return person in subjects or any((s[:2], s[2]) in stands for s in subjects if len(s) == 3)
        if rule[0] == "same":
            return (thing, rule[1]) in stands
        if rule[0] == "via":
            return any((row[2], rule[2]) in stands for row in store.rows if row[:2] == (thing, rule[1]))
        if rule[0] == "or":
            return any([holds(part, thing, relation) for part in rule[1:]])
        if rule[0] == "and":
            return all([holds(part, thing, relation) for part in rule[1:]])
        return holds(rule[1], thing, relation) and (thing, rule[2]) not in stands

    for level in sorted(set(levels.values())):
        before = None
        while before != stands:
            before = set(stands)
            stands |= {(t, r) for t, r in pairs if levels[t, r] == level and holds(rules[t[0]][r][1], t, r)}
    return stands


def expected_heights(store, person, more=()):
    """The least height of a reason for each pair that has one: which have one of at most 1, of at most 2, .. ([11])."""
    rules = store.book.rules
    pairs = all_pairs(store, more)
    stands = expected_stands(store, person, more)
    heights = {}

    def has_part(rule, thing, relation, low):
        """Whether there is a part of one of the heights up to that of low and one more; low are the pairs up to it."""
        subjects = [row[2] for row in store.rows if row[:2] == (thing, relation)]
        if rule[0] == "rows":
            return person in subjects or any((s[:2], s[2]) in low for s in subjects if len(s) == 3)
        if rule[0] == "same":
            return (thing, rule[1]) in low
        if rule[0] == "via":
            return any((row[2], rule[2]) in low for row in store.rows if row[:2] == (thing, rule[1]))
        if rule[0] == "but":
            return (thing, rule[2]) not in stands and has_part(rule[1], thing, relation, low)
        some = [has_part(part, thing, relation, low) for part in rule[1:]]
        return any(some) if rule[0] == "or" else all(some)

    # No reason of least height has a question twice on one way down.
    for height in range(1, len(pairs) + 1):
        if len(heights) == len(stands):
            break
        low = set(heights)
        for thing, relation in pairs:
            if (thing, relation) not in low and has_part(rules[thing[0]][relation][1], thing, relation, low):
                heights[thing, relation] = height
    return heights
