"""Comparing books: whether two plain books give the same answers, with a table or a way that shows it."""

from sharerules.errors import NotAlike
from sharerules.rules import parts
from sharerules.ways import check_plain, is_plain

LETTERS = "abcdefghijklmnopqrstuvwxyz"


def are_alike(first, second):
    """Whether two books have the same kinds, relations, links and allowed subjects."""
    return _difference(first, second) is None


def _difference(first, second):
    """The least pair (kind, relation), or (kind, ""), by which two books are not alike, or None."""
    found = []
    for kind in sorted(set(first.kinds + second.kinds)):
        if kind in first.kinds and kind in second.kinds:
            names = sorted(set(first.relations(kind) + second.relations(kind)))
            found.extend([(kind, name) for name in names if _differs(first, second, kind, name)])
        else:
            found.append((kind, ""))
    return min(found, default=None)


def _differs(first, second, kind, relation):
    """Whether a relation of a kind that both books have is not the same in both, but for its rule."""
    if relation not in first.relations(kind) or relation not in second.relations(kind):
        return True
    if (first.rule(kind, relation) is None) != (second.rule(kind, relation) is None):
        return True
    return first.allowed(kind, relation) != second.allowed(kind, relation)


def parting_way(first, second, place):
    """A shortest way that parts two books for a place, or None if they are equal for it."""
    comparison = _comparison_of(first, second)
    found, before = comparison.search(place)
    ends = [triple for triple in found[-1] if comparison.parting(triple)]
    if not ends:
        return None
    relation = comparison.parting(ends[0])[0]
    # In the last row stands the person, whatever kind is allowed there.
    person = [shape for shape in first.allowed(ends[0][0], relation) if len(shape) == 1][0]
    steps = [(ends[0][0], relation, person)]
    triple = ends[0]
    while before[triple] is not None:
        triple, relation, shape = before[triple]
        steps.append((triple[0], relation, shape))
    return _rows_of(steps[::-1])


def _rows_of(steps):
    """The rows of a way from (kind, relation, subject without its name) for each of them."""
    rows = []
    for at, (kind, relation, shape) in enumerate(steps):
        rows.append(((kind, _column(at)), relation, (shape[0], _column(at + 1), *shape[1:])))
    return rows


def _column(number):
    """The name of an object by its number: "a" for 0, "z" for 25, "aa" for 26."""
    name = ""
    left = number + 1
    while left > 0:
        left, at = divmod(left - 1, len(LETTERS))
        name = LETTERS[at] + name
    return name


def equal_table(first, second, place):
    """A table that shows that two books are equal for a place, or None if they are not."""
    comparison = _comparison_of(first, second)
    table = []
    for layer in comparison.search(place)[0]:
        table.extend(layer)
    return None if any([comparison.parting(triple) for triple in table]) else sorted(table)


def layers(first, second, place):
    """The layers of two books for a place, each ascending."""
    return _comparison_of(first, second).search(place)[0]


def is_table(first, second, place, value):
    """Whether a value is a table that shows that two alike plain books are equal for a place."""
    if not are_alike(first, second) or not is_plain(first) or not is_plain(second) or place not in first:
        return False
    if not isinstance(value, list) or not all([_is_triple(first, item) for item in value]):
        return False
    table = {triple: True for triple in value}
    if len(table) != len(value) or _first_triple(place) not in table:
        return False
    comparison = Comparison(first, second)
    return all([_is_kept(comparison, table, triple) for triple in value])


def _is_kept(comparison, table, triple):
    """Whether the same rows end ways by a triple of a table, and all triples that it leads to are in the table."""
    if comparison.parting(triple):
        return False
    return all([step[2] in table for step in comparison.steps(triple)])


def _is_triple(book, value):
    if not isinstance(value, tuple) or len(value) != 3 or value[0] not in book.kinds:
        return False
    return _are_relations(book, value[0], value[1]) and _are_relations(book, value[0], value[2])


def _are_relations(book, kind, value):
    """Whether a value is a tuple of different relations of a kind, ascending, links not among them."""
    if not isinstance(value, tuple) or not all([(kind, item) in book for item in value]):
        return False
    return all([value[at - 1] < value[at] for at in range(1, len(value))])


def _first_triple(place):
    return (place[0], (place[1],), (place[1],))


def _comparison_of(first, second):
    """The comparison of two books; raises NotAlike and NotPlain."""
    pair = _difference(first, second)
    if pair is not None:
        raise NotAlike(pair)
    check_plain(first)
    check_plain(second)
    return Comparison(first, second)


class Uses:
    """What the needs of relations use by a plain book: rows, and links."""

    def __init__(self, book):
        self._ends = {}
        self._links = {}
        for place in book.places:
            self._keep(book, place)

    def _keep(self, book, place):
        """Keeps what the needs of a place alone use."""
        kind, relation = place
        needs = [relation]
        self._ends[place] = []
        self._links[place] = []
        at = 0
        while at < len(needs):
            rule = book.rule(kind, needs[at])
            for part in parts(rule):
                if part[0] == "rows":
                    self._ends[place].append(needs[at])
                elif part[0] == "via":
                    self._links[place].append((part[1], part[2]))
                elif part[0] == "same" and part[1] not in needs:
                    needs.append(part[1])
            at += 1

    def ends(self, kind, relations):
        """The relations whose rows are used, ascending."""
        found = []
        for relation in relations:
            found.extend(self._ends[(kind, relation)])
        return sorted(set(found))

    def links(self, kind, relations):
        """(link, relation) for each link that is used and each relation that is used by it, ascending."""
        found = []
        for relation in relations:
            found.extend(self._links[(kind, relation)])
        return sorted(set(found))


class Comparison:
    """Two alike plain books, and where triples lead by them."""

    def __init__(self, first, second):
        self._book = first
        self._first = Uses(first)
        self._second = Uses(second)

    def parting(self, triple):
        """The relations whose rows are used by one of the books alone, ascending."""
        kind, firsts, seconds = triple
        one = self._first.ends(kind, firsts)
        two = self._second.ends(kind, seconds)
        return sorted(set(one) ^ set(two))

    def steps(self, triple):
        """(relation, subject without its name, triple) for each row by which a triple leads to another one."""
        kind, firsts, seconds = triple
        found = []
        for relation in self._first.ends(kind, firsts):
            groups = [shape for shape in self._book.allowed(kind, relation) if len(shape) == 2]
            found.extend([(relation, shape, _first_triple(shape)) for shape in groups])
        one = self._first.links(kind, firsts)
        two = self._second.links(kind, seconds)
        for link in sorted(set([use[0] for use in one + two])):
            for shape in self._book.allowed(kind, link):
                there = (shape[0], self._used_by(link, shape[0], one), self._used_by(link, shape[0], two))
                if there[1] or there[2]:
                    found.append((link, shape, there))
        return found

    def _used_by(self, link, kind, uses):
        """The relations that are used by a link, of those that are places of a kind to which it leads."""
        return tuple([relation for name, relation in uses if name == link and (kind, relation) in self._book])

    def search(self, place):
        """The layers for a place, each ascending, and for each triple (triple before, relation, subject) or None."""
        start = _first_triple(place)
        before = {start: None}
        found = [[start]]
        while True:
            if any([self.parting(triple) for triple in found[-1]]):
                return (found, before)
            further = []
            for triple in found[-1]:
                for relation, shape, there in self.steps(triple):
                    if there not in before:
                        before[there] = (triple, relation, shape)
                        further.append(there)
            if not further:
                return (found, before)
            found.append(sorted(further))
