"""Lists: of objects and persons, of the rows that an answer hangs on, and of what a write would change."""

from sharerules.errors import BadQuestion
from sharerules.grants import granted, least_heights, may
from sharerules.names import is_name, is_object


def objects_for(store, kind, relation, person):
    """The objects of a kind, of those of rows, to which a person stands in a relation, ascending."""
    if (kind, relation) not in store.book or not is_object(person):
        raise BadQuestion((kind, relation, person))
    things = [row[0] for row in store.rows if row[0][0] == kind]
    found = least_heights(store, person, [(thing, relation) for thing in things])
    return [thing for thing in sorted(set(things)) if (thing, relation) in found]


def persons_for(store, thing, relation, kind):
    """The objects of a kind, of those that are subjects of rows, that stand in a relation to an object, ascending."""
    if not is_object(thing) or (thing[0], relation) not in store.book or not is_name(kind):
        raise BadQuestion((thing, relation, kind))
    persons = [person for person in _persons_of(store.rows) if person[0] == kind]
    return [person for person in persons if may(store, thing, relation, person)]


def _persons_of(rows):
    """The objects that are subjects of rows, ascending."""
    return sorted(set([row[2] for row in rows if len(row[2]) == 2]))


def critical(store, thing, relation, person):
    """The rows without each of which alone the answer would be another one, ascending."""
    answer = may(store, thing, relation, person)
    scratch = store.at(store.version)
    found = []
    for row in scratch.rows_at(0):
        scratch.write(remove=[row])
        if may(scratch, thing, relation, person) != answer:
            found.append(row)
        scratch.write(add=[row])
    return found


def effects(store, *, add=(), remove=()):
    """(gained, lost): the questions whose answer a write would change to yes, and to no, each ascending."""
    scratch = store.at(store.version)
    scratch.write(add=add, remove=remove)
    gained = []
    lost = []
    for person in _persons_of(store.rows + scratch.rows):
        before = granted(store, person)
        after = granted(scratch, person)
        gained.extend([(*pair, person) for pair in sorted(set(after) - set(before))])
        lost.extend([(*pair, person) for pair in sorted(set(before) - set(after))])
    return (sorted(gained), sorted(lost))
