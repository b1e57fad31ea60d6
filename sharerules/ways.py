"""Ways: plain, single and steady books, least cuts and reasons that share no row, grounds and barriers."""

from sharerules.checks import is_reason, reason_rows
from sharerules.errors import NotPlain, NotSingle, NotSteady
from sharerules.flows import Network
from sharerules.grants import check_question, is_question, may
from sharerules.rules import parts
from sharerules.store import Store


def is_plain(book):
    """Whether no rule of a book has "and" or "but"."""
    return _place_with(book, ("and", "but")) is None


def is_steady(book):
    """Whether no rule of a book has "but"."""
    return _place_with(book, ("but",)) is None


def is_single(book):
    """Whether the rows of each relation and link of a book are used at most once."""
    return _used_again(book) is None


def check_plain(book):
    """Raises NotPlain with the least place whose rule has "and" or "but"."""
    place = _place_with(book, ("and", "but"))
    if place is not None:
        raise NotPlain(place)


def _place_with(book, words):
    """The least place whose rule has one of the words, or None."""
    for place in book.places:
        rule = book.rule(place[0], place[1])
        if any([part[0] in words for part in parts(rule)]):
            return place
    return None


def _used_again(book):
    """The least pair (kind, relation) whose rows are used more than once, or None."""
    uses = {}
    for kind, relation in book.places:
        rule = book.rule(kind, relation)
        for part in parts(rule):
            if part[0] == "rows":
                uses[(kind, relation)] = uses.get((kind, relation), 0) + 1
            elif part[0] == "via":
                uses[(kind, part[1])] = uses.get((kind, part[1]), 0) + 1
    return min([pair for pair in uses if uses[pair] > 1], default=None)


def least_cut(store, thing, relation, person):
    """A cut with as few rows as possible, ascending; without rows if the answer is no."""
    return _network_for(store, thing, relation, person).cut()


def separate_reasons(store, thing, relation, person):
    """As many reasons as possible that share no row."""
    return _network_for(store, thing, relation, person).reasons()


def _network_for(store, thing, relation, person):
    check_question(store, thing, relation, person)
    check_plain(store.book)
    pair = _used_again(store.book)
    if pair is not None:
        raise NotSingle(pair)
    return Network(store, (thing, relation), person)


def is_cut(store, thing, relation, person, value):
    """Whether a value is a list of different rows of a store without which the answer is no."""
    if not is_question(store, thing, relation, person) or not isinstance(value, list):
        return False
    if not all([row in store for row in value]) or len(set(value)) != len(value):
        return False
    scratch = store.at(store.version)
    scratch.write(remove=value)
    return not may(scratch, thing, relation, person)


def are_separate(store, thing, relation, person, value):
    """Whether a value is a list of reasons for a question that share no row."""
    if not is_question(store, thing, relation, person) or not isinstance(value, list):
        return False
    if not all([is_reason(store, thing, relation, person, item) for item in value]):
        return False
    used = []
    for item in value:
        used.extend(reason_rows(item))
    return len(set(used)) == len(used)


def ground(store, thing, relation, person):
    """The rows that are left when each one, from the least one on, is left out if the answer is still yes."""
    if not _is_steady_yes(store, thing, relation, person):
        return []
    scratch = store.at(store.version)
    for row in store.rows:
        scratch.write(remove=[row])
        if not may(scratch, thing, relation, person):
            scratch.write(add=[row])
    return scratch.rows


def barrier(store, thing, relation, person):
    """The rows that stay away when each one, from the least one on, is put back if the answer is still no."""
    if not _is_steady_yes(store, thing, relation, person):
        return []
    scratch = Store(store.book)
    away = []
    for row in store.rows:
        scratch.write(add=[row])
        if may(scratch, thing, relation, person):
            scratch.write(remove=[row])
            away.append(row)
    return away


def _is_steady_yes(store, thing, relation, person):
    """The answer to a question; raises NotSteady with the least place whose rule has "but"."""
    check_question(store, thing, relation, person)
    place = _place_with(store.book, ("but",))
    if place is not None:
        raise NotSteady(place)
    return may(store, thing, relation, person)
