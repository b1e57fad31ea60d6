"""Names, objects, groups and rows, and their texts."""

LONGEST_NAME = 8
NO_RELATIONS = ("or", "and", "via", "but", "not", "rows")


def is_name(value):
    """Whether a value is a name: 1 to 8 letters a to z."""
    if not isinstance(value, str) or not 1 <= len(value) <= LONGEST_NAME:
        return False
    return all(["a" <= sign <= "z" for sign in value])


def is_relation(value):
    """Whether a value is a name that may stand for a relation."""
    return is_name(value) and value not in NO_RELATIONS


def is_object(value):
    """Whether a value is a tuple (kind, name)."""
    if not isinstance(value, tuple) or len(value) != 2:
        return False
    return is_name(value[0]) and is_name(value[1])


def is_group(value):
    """Whether a value is a tuple (kind, name, relation)."""
    if not isinstance(value, tuple) or len(value) != 3:
        return False
    return is_name(value[0]) and is_name(value[1]) and is_relation(value[2])


def is_subject(value):
    """Whether a value is an object or a group."""
    return is_object(value) or is_group(value)


def is_row(value):
    """Whether a value is a tuple (object, relation, subject)."""
    if not isinstance(value, tuple) or len(value) != 3:
        return False
    return is_object(value[0]) and is_relation(value[1]) and is_subject(value[2])


def subject_text(subject):
    """The text of an object or a group."""
    text = f"{subject[0]}:{subject[1]}"
    if len(subject) == 2:
        return text
    return f"{text}#{subject[2]}"


def row_text(row):
    """The text of a row."""
    return f"{subject_text(row[0])} {row[1]} {subject_text(row[2])}"


def read_subject(text):
    """The object or group whose text a value is, or None."""
    if not isinstance(text, str):
        return None
    kind, _, rest = text.partition(":")
    name, mark, relation = rest.partition("#")
    # A mark without a relation behind it must not pass as an object.
    subject = (kind, name, relation) if mark else (kind, name)
    return subject if is_subject(subject) else None


def read_row(text):
    """The row whose text a value is, or None."""
    if not isinstance(text, str):
        return None
    words = text.split(" ")
    if len(words) != 3:
        return None
    row = (read_subject(words[0]), words[1], read_subject(words[2]))
    return row if is_row(row) else None


def shape(subject):
    """A subject without its name: (kind,) or (kind, relation)."""
    return (subject[0],) + subject[2:]


def target(subject):
    """The object (kind, name) of a subject."""
    return (subject[0], subject[1])
