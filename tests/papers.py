"""Reasons and counter-reasons ([9] to [12]), worked out slowly, and papers with changes in them."""

from oracle import Wrong, expected_heights, expected_stands, need

STEPS = ("group", "same", "via")


def rule_of(store, thing, relation):
    return store.book.rules[thing[0]][relation][1]


def is_place(store, thing, relation):
    table = store.book.rules.get(thing[0], {})
    return relation in table and table[relation][1] is not None


def subjects_of(store, thing, relation):
    return sorted(last for first, name, last in store.rows if (first, name) == (thing, relation))


def holds(check, *values):
    try:
        check(*values)
    except Wrong:
        return False
    return True


def expected_reason(store, thing, relation, person, value):
    """Whether a value is a reason for a question ([9])."""
    return holds(check_reason, store, thing, relation, person, value)


def expected_counter(store, thing, relation, person, value):
    """Whether a value is a counter-reason for a question ([10])."""
    return holds(check_counter, store, thing, relation, person, value)


def check_reason(store, thing, relation, person, value):
    check_part(store, (thing, relation, person), rule_of(store, thing, relation), value)


def check_part(store, question, rule, value):
    thing, relation, person = question
    word = rule[0]
    need(type(value) is tuple and len(value) >= 2 and type(value[0]) is str)
    if word == "rows" and value[0] == "row":
        need(value == ("row", question) and question in store.rows)
    elif word == "rows":
        need(value[0] == "group" and len(value) == 3 and value[1] in store.rows)
        need(value[1][:2] == (thing, relation) and len(value[1][2]) == 3)
        check_reason(store, value[1][2][:2], value[1][2][2], person, value[2])
    elif word == "same":
        need(value[0] == "same" and len(value) == 2)
        check_reason(store, thing, rule[1], person, value[1])
    elif word == "via":
        need(value[0] == "via" and len(value) == 3 and value[1] in store.rows and value[1][:2] == (thing, rule[1]))
        need(is_place(store, value[1][2], rule[2]))
        check_reason(store, value[1][2], rule[2], person, value[2])
    elif word == "or":
        need(value[0] == "or" and len(value) == 3 and type(value[1]) is int and value[1] in range(len(rule) - 1))
        check_part(store, question, rule[1:][value[1]], value[2])
    elif word == "and":
        need(value[0] == "and" and len(value) == len(rule))
        for inner, part in zip(rule[1:], value[1:]):
            check_part(store, question, inner, part)
    else:
        need(value[0] == "but" and len(value) == 3)
        check_part(store, question, rule[1], value[1])
        check_counter(store, thing, rule[2], person, value[2])


def check_counter(store, thing, relation, person, value):
    need(type(value) is tuple and len(value) == 2 and type(value[0]) is tuple and type(value[1]) is tuple)
    need(all(type(entry) is tuple and len(entry) == 2 for entry in value[1]))
    refused, granted = list(value[0]), [entry[0] for entry in value[1]]
    for pairs in (refused, granted):
        for at, pair in enumerate(pairs):
            need(type(pair) is tuple and len(pair) == 2 and type(pair[0]) is tuple and len(pair[0]) == 2)
            need(type(pair[1]) is str and all(type(name) is str for name in pair[0]) and pair not in pairs[:at])
            need(is_place(store, *pair) and 1 <= len(pair[0][1]) <= 8 and all("a" <= sign <= "z" for sign in pair[0][1]))
    need((thing, relation) in refused)
    for pair in refused:
        need(is_refused(store, pair, person, rule_of(store, *pair), refused, granted))
    for pair, reason in value[1]:
        check_reason(store, *pair, person, reason)


def is_refused(store, pair, person, rule, refused, granted):
    thing, relation = pair
    word = rule[0]
    if word == "rows":
        subjects = subjects_of(store, thing, relation)
        return person not in subjects and all((s[:2], s[2]) in refused for s in subjects if len(s) == 3)
    if word == "same":
        return (thing, rule[1]) in refused
    if word == "via":
        return all((s, rule[2]) in refused for s in subjects_of(store, thing, rule[1]) if is_place(store, s, rule[2]))
    if word == "but":
        return (thing, rule[2]) in granted or is_refused(store, pair, person, rule[1], refused, granted)
    some = [is_refused(store, pair, person, part, refused, granted) for part in rule[1:]]
    return all(some) if word == "or" else any(some)


class FirstPapers:
    """The first reasons and first counter-reasons for one person ([11], [12])."""

    def __init__(self, store, person, more=()):
        self.store, self.person = store, person
        self.stands = expected_stands(store, person, more)
        self.heights = expected_heights(store, person, more)

    def answer(self, thing, relation):
        pair = (thing, relation)
        return (True, self.reason(*pair)) if pair in self.stands else (False, self.counter(*pair))

    def reason(self, thing, relation):
        return self.part(thing, relation, rule_of(self.store, thing, relation))

    def height(self, thing, relation, rule):
        """The least height of a part for a rule, or None."""
        subjects = subjects_of(self.store, thing, relation)
        if rule[0] == "rows":
            some = [self.heights.get((s[:2], s[2])) for s in subjects if len(s) == 3]
            return 1 if self.person in subjects else self.one_more(some)
        if rule[0] == "same":
            return self.one_more([self.heights.get((thing, rule[1]))])
        if rule[0] == "via":
            return self.one_more([self.heights.get((s, rule[2])) for s in subjects_of(self.store, thing, rule[1])])
        if rule[0] == "but":
            return None if (thing, rule[2]) in self.stands else self.height(thing, relation, rule[1])
        some = [self.height(thing, relation, part) for part in rule[1:]]
        if rule[0] == "or":
            return min((least for least in some if least), default=None)
        return max(some) if all(some) else None

    def one_more(self, some):
        return min((least + 1 for least in some if least), default=None)

    def part(self, thing, relation, rule):
        word = rule[0]
        if word == "rows":
            row = (thing, relation, self.person)
            if row in self.store.rows:
                return ("row", row)
            groups = [(self.heights.get((s[:2], s[2]), 10 ** 6), s) for s in subjects_of(self.store, thing, relation)
                      if len(s) == 3]
            group = min(groups)[1]
            return ("group", (thing, relation, group), self.reason(group[:2], group[2]))
        if word == "same":
            return ("same", self.reason(thing, rule[1]))
        if word == "via":
            found = [(self.heights.get((s, rule[2]), 10 ** 6), s) for s in subjects_of(self.store, thing, rule[1])]
            there = min(found)[1]
            return ("via", (thing, rule[1], there), self.reason(there, rule[2]))
        if word == "or":
            some = [(self.height(thing, relation, part) or 10 ** 6, number) for number, part in enumerate(rule[1:])]
            number = min(some)[1]
            return ("or", number, self.part(thing, relation, rule[1:][number]))
        if word == "and":
            return ("and", *[self.part(thing, relation, part) for part in rule[1:]])
        return ("but", self.part(thing, relation, rule[1]), self.counter(thing, rule[2]))

    def counter(self, thing, relation):
        refused, granted = [(thing, relation)], set()

        def put(pair):
            if pair not in refused:
                refused.append(pair)

        def walk(pair, rule):
            first, name = pair
            if rule[0] == "rows":
                for s in subjects_of(self.store, first, name):
                    if len(s) == 3:
                        put((s[:2], s[2]))
            elif rule[0] == "same":
                put((first, rule[1]))
            elif rule[0] == "via":
                for s in subjects_of(self.store, first, rule[1]):
                    if is_place(self.store, s, rule[2]):
                        put((s, rule[2]))
            elif rule[0] == "or":
                for part in rule[1:]:
                    walk(pair, part)
            elif rule[0] == "and":
                walk(pair, next(part for part in rule[1:] if self.height(*pair, part) is None))
            elif self.height(*pair, rule[1]) is None:
                walk(pair, rule[1])
            else:
                granted.add((first, rule[2]))

        # The list grows while it is gone over.
        for pair in refused:
            walk(pair, rule_of(self.store, *pair))
        return (tuple(refused), tuple((pair, self.reason(*pair)) for pair in sorted(granted)))


def rows_in(part):
    """The rows in a part, as a set, without those in its counter-reasons."""
    if part[0] == "row":
        return {part[1]}
    if part[0] in ("group", "via"):
        return {part[1]} | rows_in(part[2])
    if part[0] == "or":
        return rows_in(part[2])
    return set().union(*[rows_in(inner) for inner in (part[1:2] if part[0] == "but" else part[1:])])


def height_of(part):
    """The height of a part ([11])."""
    if part[0] == "row":
        return 1
    if part[0] in STEPS:
        return 1 + height_of(part[-1])
    if part[0] == "or":
        return height_of(part[2])
    return max(height_of(inner) for inner in (part[1:2] if part[0] == "but" else part[1:]))


def parts_in(paper):
    """How many parts and pairs there are in a reason or a counter-reason."""
    if type(paper[0]) is tuple:
        return len(paper[0]) + sum(1 + parts_in(reason) for _, reason in paper[1])
    return 1 + sum(parts_in(inner) for inner in inner_papers(paper))


def inner_papers(part):
    """The parts, reasons and counter-reasons within a part."""
    if part[0] in ("row", "group", "via", "or"):
        return part[2:]
    return part[1:]


def counters_in(part):
    """The counter-reasons within a reason, those within them not among them."""
    if part[0] == "row":
        return []
    if part[0] == "but":
        return [part[2], *counters_in(part[1])]
    return [counter for inner in inner_papers(part) for counter in counters_in(inner)]


def pieces(value):
    """The value and all tuples in it."""
    yield value
    for item in value:
        if type(item) is tuple:
            yield from pieces(item)


def changed_paper(dice, value, pool):
    """A paper with a part exchanged for one of the pool, left out, turned round, put in, or made another sort."""
    if type(value) is tuple and value and dice.random() < 0.8:
        at = dice.randrange(len(value))
        return (*value[:at], changed_paper(dice, value[at], pool), *value[at + 1:])
    if type(value) is int:
        return dice.choice([value + 1, value - 1, -value, bool(value), str(value), None])
    if type(value) is not tuple:
        return dice.choice(["row", "group", "same", "via", "or", "and", "but", "a", "k", "", 0, None, [value], {"row": value}])
    made = list(value)
    way = dice.random()
    if way < 0.6:
        return dice.choice(pool)
    if way < 0.7 and made:
        del made[dice.randrange(len(made))]
    elif way < 0.8:
        made.insert(dice.randint(0, len(made)), dice.choice(pool))
    elif way < 0.9:
        made.reverse()
    else:
        return dice.choice([made, value * 2, (value,), (), None, dict(enumerate(made))])
    return tuple(made)
