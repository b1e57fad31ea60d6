"""Books and stores that several test files share: some written out, some made at random from a fixed seed."""

import random
import string

from sharerules.books import Book, are_rules, find_ring
from sharerules.store import Store

ROWS = ("rows",)
USER = (("user",),)

# Groups in groups, folders in folders, and three levels.
RULES = {
    "user": {},
    "group": {"member": ((("group", "member"), ("user",)), ROWS)},
    "folder": {
        "parent": ((("folder",),), None),
        "viewer": ((("group", "member"), ("user",)), ("or", ROWS, ("via", "parent", "viewer"))),
    },
    "doc": {
        "parent": ((("doc",), ("folder",)), None),
        "owner": (USER, ROWS),
        "editor": ((("group", "member"), ("user",)), ("or", ROWS, ("same", "owner"))),
        "banned": ((("group", "member"), ("user",)), ROWS),
        "viewer": (USER, ("but", ("or", ROWS, ("same", "editor"), ("via", "parent", "viewer")), "banned")),
        "stranger": (USER, ("but", ROWS, "viewer")),
        "both": (USER, ("and", ("same", "viewer"), ("same", "editor"), ROWS)),
    },
}
TEXT = """kind doc
relation banned allows group#member user = rows
relation both allows user = ( viewer and editor and rows )
relation editor allows group#member user = ( rows or owner )
relation owner allows user = rows
link parent allows doc folder
relation stranger allows user = ( rows but not viewer )
relation viewer allows user = ( ( rows or editor or viewer via parent ) but not banned )
kind folder
link parent allows folder
relation viewer allows group#member user = ( rows or viewer via parent )
kind group
relation member allows group#member user = rows
kind user"""

# For each number of levels: a chain of relations, each of which refuses the one before.
NAMES = list(string.ascii_lowercase)


def thing(text):
    return tuple(text.split(":"))


def row(text):
    """A row from words as "doc:a viewer group:b#member"."""
    first, relation, last = text.split(" ")
    kind, _, name = last.partition(":")
    return (thing(first), relation, (kind, *name.split("#")))


def rows(*texts):
    return [row(text) for text in texts]


def sample_store(*texts):
    return Store(Book(RULES), rows=rows(*texts))


def refusing_chain(many):
    """Rules of one kind with so many relations: the last one has the level many - 1."""
    made = {NAMES[0]: ((("k",),), ROWS)}
    for at in range(1, many):
        made[NAMES[at]] = ((("k",),), ("but", ROWS, NAMES[at - 1]))
    return {"k": made}


def nested_rule(depth, wrap=lambda rule: ("or", rule, ROWS)):
    rule = ROWS
    for _ in range(depth - 1):
        rule = wrap(rule)
    return rule


def shuffled(dice, value):
    """The same value with the keys of its dicts put in another sequence."""
    if not isinstance(value, dict):
        return value
    pairs = list(value.items())
    dice.shuffle(pairs)
    return {key: shuffled(dice, item) for key, item in pairs}


def random_rule(dice, known, depth, words):
    """A rule; known has the relations for "same" and "but", and the pairs of a link and a relation for "via"."""
    word = dice.choice(words)
    if depth > 1 and word in ("or", "and"):
        many = dice.randint(2, 3)
        return (word, *[random_rule(dice, known, depth - 1, words) for _ in range(many)])
    if depth > 1 and word == "but" and known["but"]:
        return ("but", random_rule(dice, known, depth - 1, words), dice.choice(known["but"]))
    if word == "via" and known["via"]:
        return ("via", *dice.choice(known["via"]))
    return ("same", dice.choice(known["same"])) if word == "same" else ROWS


ALL_WORDS = ("rows", "rows", "rows", "same", "via", "or", "or", "and", "but", "but")
STEADY_WORDS = ("rows", "rows", "same", "via", "or", "and")


def random_rules(dice, *, words=ALL_WORDS, depth=3):
    """Right rules, sound or not, of up to three kinds."""
    kinds = NAMES[:dice.randint(1, 3)]
    places = {kind: NAMES[10:10 + dice.randint(1, 4)] for kind in kinds}
    links = {kind: {name: sorted((k,) for k in dice.sample(kinds, dice.randint(1, len(kinds))))
                    for name in ["l", "m"][:dice.randint(0, 2)] if name not in places[kind]} for kind in kinds}
    # Where nothing hangs on a greater name, nor refusingly on an equal one, rules are sound, of many levels.
    layered = dice.random() < 0.5
    made = {}
    for kind in kinds:
        made[kind] = {name: (tuple(allowed), None) for name, allowed in links[kind].items()}
        for place in places[kind]:
            pairs = [(name, one) for name, allowed in links[kind].items() for (k,) in allowed for one in places[k]]
            groups = [(k, one) for k in kinds for one in places[k]]
            known = {
                "same": [one for one in places[kind] if one <= place or not layered],
                "but": [one for one in places[kind] if one < place or not layered],
                "via": [pair for pair in pairs if pair[1] <= place or not layered],
            }
            rule = random_rule(dice, known, depth, words)
            groups = [group for group in groups if group[1] <= place or not layered]
            made[kind][place] = (random_allowed(dice, kinds, groups) if "'rows'" in str(rule) else (), rule)
    assert are_rules(made)
    return shuffled(dice, made)


def random_allowed(dice, kinds, groups):
    some = [(kind,) for kind in dice.sample(kinds, dice.randint(1, len(kinds)))]
    return tuple(sorted(some + dice.sample(groups, dice.randint(0, len(groups)))))


def random_book(dice, **told):
    """A book, made of sound rules."""
    while True:
        made = random_rules(dice, **told)
        if find_ring(made) is None:
            return Book(made)


def right_rows(book, names):
    """All rows that are right for a book with objects of these names."""
    found = []
    for kind in book.kinds:
        for relation in book.relations(kind):
            for item in book.allowed(kind, relation):
                for first in names:
                    for last in names:
                        found.append(((kind, first), relation, (item[0], last, *item[1:])))
    return found


def random_store(dice, *, many=12, names=("x", "y", "z"), **told):
    book = random_book(dice, **told)
    all_rows = right_rows(book, names)
    return Store(book, rows=dice.sample(all_rows, dice.randint(0, min(many, len(all_rows)))))


def random_stores(seed, count, **told):
    dice = random.Random(seed)
    for _ in range(count):
        yield random_store(dice, **told)


def mixed_store(dice, *, relations=6, objects=4, persons=2):
    """A store of one kind with many levels, in which few persons stand here and there: papers within papers."""
    made = {"l": ((("k",),), None)}
    names = NAMES[:relations]
    for at, name in enumerate(names):
        lower, upto = names[:at], names[:at + 1]
        known = {"same": lower or [name], "but": lower, "via": [("l", one) for one in upto]}
        rule = random_rule(dice, known, 3, ("rows", "rows", "same", "via", "or", "or", "and", "but"))
        if lower and dice.random() < 0.6:
            rule = ("but", rule, dice.choice(lower))
        groups = [("k", one) for one in dice.sample(upto, dice.randint(0, len(upto)))]
        made[name] = (tuple(sorted([("u",), *groups])) if "'rows'" in str(rule) else (), rule)
    book = Book({"k": made, "u": {}})
    every = right_rows(book, NAMES[15:15 + objects])
    tellings = [one for one in every if one[2][0] == "u" and one[2][1] in NAMES[15:15 + persons]]
    steps = [one for one in every if one[2][0] == "k"]
    return Store(book, rows=dice.sample(tellings, len(tellings) * 2 // 5) + dice.sample(steps, min(len(steps), 14)))


def mixed_stores(seed, count, **told):
    dice = random.Random(seed)
    for _ in range(count):
        yield mixed_store(dice, **told)


def doubling_store(many):
    """A store in which reasons and counter-reasons double with each of many steps: by "and" over two links to the next."""
    book = Book({"k": {
        "l": ((("k",),), None), "m": ((("k",),), None),
        "r": ((("k",),), ("or", ROWS, ("and", ("via", "l", "r"), ("via", "m", "r")))),
        "no": ((("k",),), ("but", ROWS, "r")),
    }})
    names = [first + last for first in NAMES[:10] for last in NAMES[:10]]
    steps = [(("k", names[at]), link, ("k", names[at + 1])) for at in range(many) for link in "lm"]
    return Store(book, rows=steps + [(("k", names[many]), "r", ("k", "p")), (("k", names[0]), "no", ("k", "p"))])


def plain_rule(dice, pieces):
    """A plain rule of the pieces, which are put into "or" in one way or another."""
    if len(pieces) == 1:
        return pieces[0]
    if len(pieces) > 2 and dice.random() < 0.5:
        at = dice.randint(1, len(pieces) - 2)
        return ("or", plain_rule(dice, pieces[:at]), ("or", *pieces[at:]))
    return ("or", *pieces)


def some_kinds(dice, kinds):
    """What a link allows: some of the kinds."""
    return tuple((kind,) for kind in sorted(dice.sample(kinds, dice.randint(1, len(kinds)))))


def single_rules(dice):
    """Rules of a plain and single book of up to two kinds."""
    kinds = NAMES[:dice.randint(1, 2)]
    names = NAMES[10:10 + dice.randint(2, 4)]
    groups = [(kind, name) for kind in kinds for name in names]
    made = {}
    for kind in kinds:
        links = {name: some_kinds(dice, kinds) for name in "xy"[:dice.randint(0, 2)]}
        made[kind] = {name: (allowed, None) for name, allowed in links.items()}
        users = {name: [] for name in names}
        for link in links:
            users[dice.choice(names)].append(("via", link, dice.choice(names)))
        for name in names:
            pieces = users[name] + [("same", one) for one in dice.sample(names, dice.randint(0, 2))]
            told = not pieces or dice.random() < 0.7
            dice.shuffle(pieces)
            if told:
                pieces.insert(dice.randint(0, len(pieces)), ROWS)
            some = sorted([(one,) for one in kinds] + dice.sample(groups, dice.randint(0, len(groups))))
            made[kind][name] = (tuple(some) if told else (), plain_rule(dice, pieces))
    return made


def single_stores(seed, count, *, many=24, names=("p", "q", "r")):
    """Stores with plain and single books."""
    dice = random.Random(seed)
    for _ in range(count):
        book = Book(single_rules(dice))
        every = right_rows(book, names)
        # Few persons and many steps, so that there are ways of all sorts.
        steps = [one for one in every if len(one[2]) == 3 or book.rule(one[0][0], one[1]) is None]
        ends = [one for one in every if one not in steps and one[2] == (book.kinds[0], names[0])]
        steps = dice.sample(steps, min(len(steps), many))
        yield Store(book, rows=steps + dice.sample(ends, min(len(ends), dice.randint(1, 4))))


def alike_books(dice, *, kinds=2, relations=4, mixed=False):
    """Two plain books that are alike; of mixed ones the second has the same pieces, put otherwise."""
    kinds, names = NAMES[:kinds], NAMES[10:10 + relations]
    groups = [(kind, name) for kind in kinds for name in names]
    first, second = {}, {}
    for kind in kinds:
        links = {name: some_kinds(dice, kinds) for name in "xy"[:dice.randint(1, 2)]}
        first[kind] = {name: (allowed, None) for name, allowed in links.items()}
        second[kind] = dict(first[kind])
        every = [("same", one) for one in names] + [("via", link, one) for link in links for one in names]
        for name in names:
            told = dice.random() < 0.5
            pieces = dice.sample(every, dice.randint(0 if told else 1, 3)) + ([ROWS] if told else [])
            others = list(pieces)
            if not mixed and dice.random() < 0.4:
                others = [piece for piece in others if piece == ROWS or dice.random() < 0.7]
                others = others + dice.sample(every, dice.randint(0 if others else 1, 1))
            elif dice.random() < 0.5:
                others = others + dice.sample(others, 1)
            dice.shuffle(pieces)
            dice.shuffle(others)
            some = dice.sample(groups, dice.randint(0, 2)) + [(dice.choice(kinds),)]
            allowed = tuple(sorted(some)) if told else ()
            first[kind][name] = (allowed, plain_rule(dice, pieces))
            second[kind][name] = (allowed, plain_rule(dice, others))
    return Book(first), Book(shuffled(dice, second))
