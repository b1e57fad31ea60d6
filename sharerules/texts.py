"""The texts of books and stores."""

from sharerules.books import Book
from sharerules.errors import BadText, ShareError
from sharerules.names import read_row, row_text
from sharerules.rules import DEEPEST_RULE, rule_text
from sharerules.store import Store


def book_text(book):
    """The text of a book."""
    lines = []
    for kind in book.kinds:
        lines.append(f"kind {kind}")
        lines.extend([_relation_text(book, kind, relation) for relation in book.relations(kind)])
    return "\n".join(lines)


def _relation_text(book, kind, relation):
    subjects = " ".join(["#".join(item) for item in book.allowed(kind, relation)]) or "-"
    rule = book.rule(kind, relation)
    if rule is None:
        return f"link {relation} allows {subjects}"
    return f"relation {relation} allows {subjects} = {rule_text(rule)}"


def store_text(store):
    """The text of a store."""
    lines = [book_text(store.book), ""]
    lines.extend([row_text(row) for row in store.rows])
    return "\n".join(lines)


def read_book(text):
    """The book whose text a value is; raises BadText if it is none."""
    book = _book_of(text)
    if book is None:
        raise BadText(text)
    return book


def read_store(text):
    """The store whose text a value is; raises BadText if it is none."""
    store = _store_of(text)
    if store is None:
        raise BadText(text)
    return store


def _book_of(text):
    if not isinstance(text, str):
        return None
    try:
        book = Book(_rules_of(text.split("\n")))
    except ShareError:
        return None
    # Lines are read loosely: what counts is that the book's text is this one, to the last character.
    return book if book_text(book) == text else None


def _store_of(text):
    if not isinstance(text, str):
        return None
    lines = text.split("\n")
    if "" not in lines:
        return None
    gap = lines.index("")
    book = _book_of("\n".join(lines[:gap]))
    if book is None:
        return None
    try:
        store = Store(book, rows=[read_row(line) for line in lines[gap + 1:]])
    except ShareError:
        return None
    return store if store_text(store) == text else None


def _rules_of(lines):
    """The rules that lines tell, or any other value if they tell none."""
    rules = {}
    kind = None
    for line in lines:
        words = line.split(" ")
        if words[0] == "kind" and len(words) == 2:
            kind = words[1]
            rules[kind] = {}
        elif kind is None or len(words) < 4:
            return None
        else:
            rules[kind][words[1]] = _definition_of(words)
    return rules


def _definition_of(words):
    if words[0] == "link":
        return (_allowed_of(words[3:]), None)
    if words[0] != "relation" or "=" not in words:
        return None
    sign = words.index("=")
    return (_allowed_of(words[3:sign]), _rule_of(words[sign + 1:]))


def _allowed_of(words):
    if words == ["-"]:
        return ()
    return tuple([tuple(word.split("#")) for word in words])


def _rule_of(words):
    rule, end = _rule_from(words, 0, DEEPEST_RULE)
    # None would make the relation a link.
    return rule if end == len(words) else ()


def _rule_from(words, at, depth):
    """What is told from a word on, a rule if the words are right, and the number of the word behind it."""
    word = _word(words, at)
    if word == "(":
        # The depth that is left ends the walk, however deep the brackets stand.
        return _bracket_from(words, at + 1, depth - 1) if depth > 1 else ((), at + 1)
    if word == "rows":
        return (("rows",), at + 1)
    if _word(words, at + 1) == "via":
        return (("via", _word(words, at + 2), word), at + 3)
    return (("same", word), at + 1)


def _bracket_from(words, at, depth):
    first, at = _rule_from(words, at, depth)
    between = _word(words, at)
    if between == "but":
        return (("but", first, _word(words, at + 2)), at + 4)
    found = [first]
    while between in ("or", "and") and _word(words, at) == between:
        rule, at = _rule_from(words, at + 1, depth)
        found.append(rule)
    return ((between, *found), at + 1)


def _word(words, at):
    return words[at] if at < len(words) else ""
