"""The console: a store, and commands in words."""

from sharerules.books import Book
from sharerules.checks import reason_rows
from sharerules.errors import BadCommand, BadText
from sharerules.grants import may
from sharerules.lists import critical, objects_for, persons_for
from sharerules.names import is_name, is_object, is_relation, read_row, read_subject, row_text, subject_text
from sharerules.reasons import answer_with
from sharerules.store import Store
from sharerules.texts import read_book, store_text


def _tell_may(store, thing, relation, person):
    return "yes" if may(store, thing, relation, person) else "no"


def _tell_why(store, thing, relation, person):
    answer, paper = answer_with(store, thing, relation, person)
    return f"yes {len(reason_rows(paper))}" if answer else f"no {len(paper[0])}"


def _tell_objects(store, kind, relation, person):
    return _subject_texts(objects_for(store, kind, relation, person))


def _tell_persons(store, thing, relation, kind):
    return _subject_texts(persons_for(store, thing, relation, kind))


def _subject_texts(subjects):
    return " ".join([subject_text(subject) for subject in subjects]) or "none"


def _tell_critical(store, thing, relation, person):
    return ", ".join([row_text(row) for row in critical(store, thing, relation, person)]) or "none"


# What the words behind each asking word are, and what tells the answer.
FORMS = {
    "may": ("object", "relation", "object"),
    "why": ("object", "relation", "object"),
    "objects": ("kind", "relation", "object"),
    "persons": ("object", "relation", "kind"),
    "critical": ("object", "relation", "object"),
}
TELLERS = {
    "may": _tell_may,
    "why": _tell_why,
    "objects": _tell_objects,
    "persons": _tell_persons,
    "critical": _tell_critical,
}


def _read_word(form, word):
    """What a word is the text of, or None if it is not of the form."""
    if form == "object":
        subject = read_subject(word)
        return subject if is_object(subject) else None
    if form == "relation":
        return word if is_relation(word) else None
    return word if is_name(word) else None


class Console:
    """A store that is written to and asked by commands."""

    def __init__(self):
        self._store = Store(Book({"user": {}}))

    def __call__(self, command):
        """Executes a command and returns what it tells."""
        if not isinstance(command, str):
            raise BadCommand(command)
        word, _, rest = command.partition(" ")
        if word == "book":
            return self._start(command, rest)
        if word == "add" or word == "remove":
            return self._write(command, word, rest)
        if word in FORMS:
            return self._tell(command, word, rest)
        if command != "save":
            raise BadCommand(command)
        return store_text(self._store)

    def _start(self, command, text):
        # The text stands for its lines only if no newline is in it already.
        if "\n" in text:
            raise BadCommand(command)
        try:
            book = read_book(text.replace(" / ", "\n"))
        except BadText:
            raise BadCommand(command) from None
        self._store = Store(book)
        return self._version()

    def _write(self, command, word, text):
        row = read_row(text)
        if row is None:
            raise BadCommand(command)
        if word == "add":
            self._store.write(add=[row])
        else:
            self._store.write(remove=[row])
        return self._version()

    def _version(self):
        return f"ok {self._store.version}"

    def _tell(self, command, word, text):
        forms = FORMS[word]
        words = text.split(" ")
        if len(words) != len(forms):
            raise BadCommand(command)
        values = [_read_word(form, told) for form, told in zip(forms, words)]
        if None in values:
            raise BadCommand(command)
        tell = TELLERS[word]
        return tell(self._store, *values)
