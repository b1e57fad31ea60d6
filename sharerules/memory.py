"""Memory: answers that are kept with what shows them, and writes that are made only if guards stand."""

from sharerules.checks import is_counter, is_reason
from sharerules.errors import BadGuard
from sharerules.grants import check_question
from sharerules.reasons import answer_with


def is_guard(store, value):
    """Whether a value is a guard that stands for the present rows of a store."""
    if not isinstance(value, tuple) or len(value) != 5:
        return False
    thing, relation, person, answer, paper = value
    if answer is True:
        return is_reason(store, thing, relation, person, paper)
    if answer is False:
        return is_counter(store, thing, relation, person, paper)
    return False


def guarded_write(store, guards, *, add=(), remove=()):
    """Writes if all guards stand, and returns the new version."""
    for number, guard in enumerate(guards):
        if not is_guard(store, guard):
            raise BadGuard(number)
    return store.write(add=add, remove=remove)


class Memory:
    """The last reason or counter-reason that was found for each question that was asked of a store."""

    def __init__(self, store):
        self._store = store
        self._kept = {}
        self._found = 0

    @property
    def found(self):
        """How often a reason or counter-reason was found anew."""
        return self._found

    def ask(self, thing, relation, person):
        """The answer to a question, by what is kept if it still stands."""
        question = (thing, relation, person)
        if not self.stands(thing, relation, person):
            self._kept[question] = answer_with(self._store, thing, relation, person)
            self._found += 1
        return self._kept[question][0]

    def known(self, thing, relation, person):
        """(answer, reason or counter-reason) that is kept for a question, or None."""
        check_question(self._store, thing, relation, person)
        return self._kept.get((thing, relation, person))

    def stands(self, thing, relation, person):
        """Whether a reason or counter-reason is kept for a question that is still one."""
        kept = self.known(thing, relation, person)
        return kept is not None and is_guard(self._store, (thing, relation, person, *kept))

    def forget(self):
        """Forgets all that is kept."""
        self._kept = {}
