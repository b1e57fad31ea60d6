"""The store: a book, rows, and the rows of every version."""

from sharerules.errors import BadRow, BadVersion, TakenRow, TooMany, UnknownRow
from sharerules.names import is_row


def _check_right(book, values):
    for value in values:
        if not book.has_row(value):
            raise BadRow(value)


def _check_free(rows, there):
    """Raises TakenRow for the first row that is there, or stands earlier among the rows."""
    earlier = set()
    for row in rows:
        if row in there or row in earlier:
            raise TakenRow(row)
        earlier.add(row)


def _check_there(rows, there):
    """Raises UnknownRow for the first row that is not there, or stands earlier among the rows."""
    earlier = set()
    for row in rows:
        if row not in there or row in earlier:
            raise UnknownRow(row)
        earlier.add(row)


def _check_count(count):
    if count > Store.LIMIT:
        raise TooMany(count)


class Store:
    """Different rows that are right for a book, and the rows of all versions before."""

    LIMIT = 100

    def __init__(self, book, *, rows=()):
        _check_right(book, rows)
        _check_free(rows, {})
        _check_count(len(rows))
        self._book = book
        self._versions = []
        self._there = {}
        self._subjects = {}
        self._keep(rows)

    def _keep(self, rows):
        """Makes these rows those of a new version, the present one."""
        present = sorted(rows)
        self._versions.append(present)
        self._there = {row: True for row in present}
        self._subjects = {}
        for thing, relation, subject in present:
            self._subjects.setdefault((thing, relation), []).append(subject)

    @property
    def book(self):
        """The book."""
        return self._book

    @property
    def version(self):
        """The number of writes so far."""
        return len(self._versions) - 1

    @property
    def rows(self):
        """The rows of the present version, ascending."""
        return list(self._versions[-1])

    def __contains__(self, value):
        return is_row(value) and value in self._there

    def __len__(self):
        return len(self._there)

    def rows_of(self, thing, relation):
        """The subjects of the rows with this object and relation, ascending."""
        return list(self._subjects.get((thing, relation), []))

    def write(self, *, add=(), remove=()):
        """Adds and removes rows at once, and returns the new version."""
        _check_right(self._book, add)
        _check_right(self._book, remove)
        _check_free(add, self._there)
        _check_there(remove, self._there)
        _check_count(len(self._there) + len(add) - len(remove))
        gone = {row: True for row in remove}
        kept = [row for row in self._versions[-1] if row not in gone]
        self._keep(kept + list(add))
        return self.version

    def _check_version(self, value):
        if isinstance(value, bool) or not isinstance(value, int) or not 0 <= value <= self.version:
            raise BadVersion(value)

    def rows_at(self, version):
        """The rows of a version, ascending."""
        self._check_version(version)
        return list(self._versions[version])

    def at(self, version):
        """A new store of version 0 with the same book and the rows of a version."""
        self._check_version(version)
        return Store(self._book, rows=self._versions[version])

    def go_back(self, version):
        """Makes a write behind which the rows are those of a version, and returns the new version."""
        self._check_version(version)
        self._keep(self._versions[version])
        return self.version

    def same(self, other):
        """Whether another store has an equal book and the same rows."""
        return self._book == other.book and self.rows == other.rows
