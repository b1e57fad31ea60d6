"""Steps: where the rows of an object lead."""

from sharerules.names import target


def group_steps(store, thing, relation):
    """(row, pair) for each row of the object and relation that tells a group, ascending; the pair is the group's."""
    groups = [subject for subject in store.rows_of(thing, relation) if len(subject) == 3]
    return [((thing, relation, group), (target(group), group[2])) for group in groups]


def link_steps(store, thing, link, relation):
    """(row, pair) for each row by which the link leads to where the relation is a place, ascending."""
    linked = [subject for subject in store.rows_of(thing, link) if (subject[0], relation) in store.book]
    return [((thing, link, subject), (subject, relation)) for subject in linked]
