"""Names, objects, groups, rows and their texts ([2], [3], [4])."""

import copy
import re
import unittest

from sharerules import names
from sharerules.errors import BadRow
from sharerules.names import (
    is_group, is_name, is_object, is_relation, is_row, is_subject,
    read_row, read_subject, row_text, shape, subject_text, target,
)
from values import argument_names, deep_values, odd_values

NO_RELATIONS = ["or", "and", "via", "but", "not", "rows"]
CHECKS = [is_name, is_relation, is_object, is_group, is_subject, is_row]
READERS = [read_subject, read_row]

GOOD_NAMES = ["a", "z", "m", "az", "abcdefgh", "zzzzzzzz", "aaaaaaaa", "or", "same", "kind", "link", "none"]
BAD_NAMES = [
    "", "abcdefghi", "aaaaaaaaa", "a" * 100, "A", "Z", "aB", "Ab", "aBc", "0", "9", "a1", "1a", "a1b",
    " ", "a ", " a", "a b", "\n", "a\n", "\na", "a\nb", "_", "a_b", "a-b", "a:b", "a#b", "`", "{", "@", "[",
    "a`", "a{", "~", "!", "a.", True, False, None, 0, 1, 7, -1, 97, (), [], {}, ("a",), ["a"], {"a": "a"},
    ["a", "b"], ("a", "b"), [[]], {"a": {}},
]

OBJECTS = [("doc", "plan"), ("a", "b"), ("abcdefgh", "zyxwvuts"), ("or", "rows"), ("same", "same")]
GROUPS = [("group", "staff", "member"), ("a", "b", "c"), ("or", "not", "abcdefgh"), ("rows", "via", "same")]
ROWS = [
    (("doc", "plan"), "viewer", ("user", "ann")),
    (("doc", "plan"), "viewer", ("group", "staff", "member")),
    (("a", "b"), "c", ("d", "e")),
    (("or", "and"), "same", ("but", "not", "r")),
    (("abcdefgh", "abcdefgh"), "abcdefgh", ("abcdefgh", "abcdefgh", "abcdefgh")),
]
TEXTS = [
    (("doc", "plan"), "doc:plan"),
    (("a", "b"), "a:b"),
    (("or", "rows"), "or:rows"),
    (("abcdefgh", "zyxwvuts"), "abcdefgh:zyxwvuts"),
    (("group", "staff", "member"), "group:staff#member"),
    (("a", "b", "c"), "a:b#c"),
    (("not", "via", "same"), "not:via#same"),
]
ROW_TEXTS = [
    ((("doc", "plan"), "viewer", ("user", "ann")), "doc:plan viewer user:ann"),
    ((("doc", "plan"), "viewer", ("group", "staff", "member")), "doc:plan viewer group:staff#member"),
    ((("a", "b"), "c", ("d", "e")), "a:b c d:e"),
    ((("or", "and"), "same", ("but", "not", "r")), "or:and same but:not#r"),
]
# What a part of an object, a group or a row may be exchanged for so that it is none any more.
NO_PARTS = ["", "A", "a1", "a b", "abcdefghi", True, False, None, 0, 1, (), ("a",), [], ["a"], {}, {"a": "b"}]

# The texts once more, told in another way than the program does it.
NAME = "[a-z]{1,8}"
RELATION = "(?!(?:or|and|via|but|not|rows)(?![a-z]))[a-z]{1,8}"
SUBJECT = re.compile(f"({NAME}):({NAME})(?:#({RELATION}))?")
ROW = re.compile(f"({NAME}):({NAME}) ({RELATION}) ({NAME}):({NAME})(?:#({RELATION}))?")


def expected_subject(text):
    match = SUBJECT.fullmatch(text)
    return match and tuple(part for part in match.groups() if part is not None)


def expected_row(text):
    match = ROW.fullmatch(text)
    if match is None:
        return None
    kind, name, relation, *subject = match.groups()
    return ((kind, name), relation, tuple(part for part in subject if part is not None))


def changed_texts(text):
    """The texts that differ from one in a sign: left out, put in, exchanged, or turned round."""
    signs = " :#\nabzA0~"
    for at in range(len(text) + 1):
        for sign in signs:
            yield text[:at] + sign + text[at:]
            yield text[:at] + sign + text[at + 1:]
        yield text[:at] + text[at + 1:]
        yield text[:at] + text[at:at + 1] + text[at:]
        yield text[:at] + text[at + 1:at + 2] + text[at:at + 1] + text[at + 2:]
        yield text[:at]
        yield text[at:]


def changed_tuples(value):
    """Values that differ from a tuple: a part too many, missing or replaced, or no tuple."""
    yield list(value)
    yield dict(enumerate(value))
    yield str(value)
    yield (value,)
    yield [value]
    for at in range(len(value)):
        yield value[:at] + value[at + 1:]
        for part in NO_PARTS:
            yield value[:at] + (part,) + value[at + 1:]
    for part in NO_PARTS:
        yield value + (part,)
        yield (part,) + value
    yield value + value


class TestNames(unittest.TestCase):
    def test_names(self):
        for value in GOOD_NAMES:
            self.assertIs(is_name(value), True, value)
        for value in BAD_NAMES:
            self.assertIs(is_name(value), False, value)

    def test_every_length(self):
        for length in range(20):
            self.assertIs(is_name("q" * length), 1 <= length <= 8)
            self.assertIs(is_relation("q" * length), 1 <= length <= 8)

    def test_every_sign(self):
        for code in range(128):
            letter = "a" <= chr(code) <= "z"
            for text in (chr(code), "a" + chr(code), chr(code) + "a", "b" + chr(code) + "y"):
                self.assertIs(is_name(text), letter, text)
                self.assertIs(is_relation(text), letter, text)

    def test_relations(self):
        for value in GOOD_NAMES:
            self.assertIs(is_relation(value), value not in NO_RELATIONS, value)
        for value in BAD_NAMES:
            self.assertIs(is_relation(value), False, value)
        for value in ("ors", "o", "ro", "an", "ands", "vi", "vias", "bu", "no", "nots", "row", "rowss", "srow"):
            self.assertIs(is_relation(value), True, value)

    def test_words_that_are_no_relations_are_names(self):
        for word in NO_RELATIONS:
            self.assertIs(is_relation(word), False, word)
            self.assertIs(is_name(word), True, word)
            self.assertIs(is_object((word, "a")), True, word)
            self.assertIs(is_object(("a", word)), True, word)
            self.assertIs(is_group((word, word, "a")), True, word)
            self.assertIs(is_group(("a", "b", word)), False, word)
            self.assertIs(is_subject(("a", "b", word)), False, word)
            self.assertIs(is_row(((word, word), "a", (word, word))), True, word)
            self.assertIs(is_row((("a", "b"), word, ("c", "d"))), False, word)
            self.assertIs(is_row((("a", "b"), "r", ("c", "d", word))), False, word)


class TestTuples(unittest.TestCase):
    def test_right_ones(self):
        for value in OBJECTS:
            self.assertEqual([check(value) for check in CHECKS], [False, False, True, False, True, False])
        for value in GROUPS:
            self.assertEqual([check(value) for check in CHECKS], [False, False, False, True, True, False])
        for value in ROWS:
            self.assertEqual([check(value) for check in CHECKS], [False, False, False, False, False, True])

    def test_answers_are_bools(self):
        values = [*OBJECTS, *GROUPS, *ROWS, *GOOD_NAMES, *BAD_NAMES, *odd_values(), *deep_values()]
        for value in values:
            for check in CHECKS:
                self.assertIsInstance(check(value), bool)

    def test_changed_objects(self):
        for right in OBJECTS:
            for value in changed_tuples(right):
                self.assertIs(is_object(value), False, value)
                self.assertIs(is_subject(value), False, value)

    def test_changed_groups(self):
        for right in GROUPS:
            for value in changed_tuples(right):
                self.assertIs(is_group(value), False, value)
                self.assertIs(is_subject(value), is_object(value), value)

    def test_changed_rows(self):
        for right in ROWS:
            for value in changed_tuples(right):
                self.assertIs(is_row(value), False, value)
            thing, relation, subject = right
            for value in changed_tuples(thing):
                self.assertIs(is_row((value, relation, subject)), False, value)
            # A group with a part missing can be an object.
            for value in changed_tuples(subject):
                self.assertIs(is_row((thing, relation, value)), is_object(value), value)

    def test_parts_exchanged(self):
        thing, relation, subject = ROWS[1]
        wrong = [
            (subject, relation, thing), (relation, thing, subject), (thing, subject, relation),
            (relation, relation, relation), (thing, thing, thing), (thing, relation, relation),
            (thing, relation, ROWS[0]), (ROWS[0], relation, subject), (thing, relation, (thing,)),
            thing + (relation,) + subject, (thing, (relation,), subject), (thing, relation, subject[2:]),
        ]
        for value in wrong:
            self.assertIs(is_row(value), False, value)

    def test_any_other_value(self):
        for value in [*odd_values(), *deep_values()]:
            for check in CHECKS:
                self.assertIs(check(value), False)

    def test_deep_parts(self):
        for deep in deep_values():
            for check in CHECKS:
                for value in ((deep, "a"), ("a", deep), ("a", "b", deep), (deep, "a", ("b", "c")),
                              (("a", "b"), deep, ("c", "d")), (("a", "b"), "c", deep)):
                    self.assertIs(check(value), False)

    def test_values_of_other_calls(self):
        for value in (BadRow(("a", "b")), BadRow("a"), iter([("a", "b")])):
            for check in CHECKS:
                self.assertIs(check(value), False)
                self.assertIs(check((value, value)), False)
                self.assertIs(check((("a", "b"), value, ("c", "d"))), False)
            for read in READERS:
                self.assertIsNone(read(value))


class TestTexts(unittest.TestCase):
    def test_subject_texts(self):
        for subject, text in TEXTS:
            self.assertEqual(subject_text(subject), text)
            self.assertEqual(read_subject(text), subject)
            self.assertIs(type(read_subject(text)), tuple)
            self.assertIsNone(read_row(text))

    def test_row_texts(self):
        for row, text in ROW_TEXTS:
            self.assertEqual(row_text(row), text)
            self.assertEqual(read_row(text), row)
            self.assertEqual([type(part) for part in read_row(text)], [tuple, str, tuple])
            self.assertIsNone(read_subject(text))

    def test_all_values_are_read_back(self):
        for subject in [*OBJECTS, *GROUPS]:
            self.assertEqual(read_subject(subject_text(subject)), subject)
        for row in ROWS:
            self.assertEqual(read_row(row_text(row)), row)

    def test_changed_subject_texts(self):
        for _, text in TEXTS:
            for changed in changed_texts(text):
                self.assertEqual(read_subject(changed), expected_subject(changed), changed)
                self.assertEqual(read_row(changed), expected_row(changed), changed)

    def test_changed_row_texts(self):
        for _, text in ROW_TEXTS:
            for changed in changed_texts(text):
                self.assertEqual(read_row(changed), expected_row(changed), changed)
                self.assertEqual(read_subject(changed), expected_subject(changed), changed)

    def test_texts_of_nothing(self):
        wrong = [
            "", ":", "#", " ", "  ", "\n", "a", "a:", ":a", "a#b", "a:b#", "a:#c", ":b#c", ":#", "a:b:c", "a::b",
            "a:b##c", "a:b#c#d", "a#b:c", "a:b#c:d", "a b", "a:b ", " a:b", "a :b", "a: b", "a:b #c", "a:b# c",
            "a:b\n", "\na:b", "a:\nb", "A:b", "a:B", "a:b#C", "a:b#or", "a:b#and", "a:b#via", "a:b#but", "a:b#not",
            "a:b#rows", "abcdefghi:b", "a:abcdefghi", "a:b#abcdefghi", "a1:b", "a:b1", "a:b#c1", "('a', 'b')", "a.b",
        ]
        for text in wrong:
            self.assertIsNone(read_subject(text), text)
            self.assertIsNone(read_row(text), text)

    def test_texts_of_no_row(self):
        wrong = [
            "a:b c", "c d:e", "a:b d:e", "a:b  d:e", "a:b c  d:e", "a:b  c d:e", " a:b c d:e", "a:b c d:e ",
            "a:b c d:e f", "a:b c d:e f:g", "a:b#r c d:e", "a:b c d", "a c d:e", "a:b c d:e#", "a:b c d:e#or",
            "a:b or d:e", "a:b rows d:e", "a:b via d:e", "a:b not d:e", "a:b and d:e", "a:b but d:e", "a:b C d:e",
            "a:b c\nd:e", "a:b\nc d:e", "a:b c d:e\n", "\na:b c d:e", "a:b c:d e:f", "a:b #c d:e", "a:bcd:e",
            "d:e c", "c a:b d:e", "a:b d:e c", "a:b abcdefghi d:e", "a:b c d:e#f#g", "a:b:c d e:f", "  ", "a b c",
        ]
        for text in wrong:
            self.assertIsNone(read_row(text), text)

    def test_any_other_value(self):
        values = [*odd_values(), *deep_values(), *OBJECTS, *GROUPS, *ROWS, ["a:b"], ("a:b",), {"a:b": 1}]
        for value in [*values, ["a:b", "c", "d:e"], ("a:b", "c", "d:e"), 3, True, None]:
            for read in READERS:
                self.assertIsNone(read(value))

    def test_long_texts(self):
        for text in ("a" * 100000, "a:" * 50000, "a:b " * 30000, "#" * 100000, " " * 100000, "a:b#" + "c" * 100000):
            for read in READERS:
                self.assertIsNone(read(text))


class TestShape(unittest.TestCase):
    def test_objects(self):
        self.assertEqual(shape(("doc", "plan")), ("doc",))
        self.assertEqual(target(("doc", "plan")), ("doc", "plan"))
        for kind, name in OBJECTS:
            self.assertEqual(shape((kind, name)), (kind,))
            self.assertEqual(target((kind, name)), (kind, name))

    def test_groups(self):
        self.assertEqual(shape(("group", "staff", "member")), ("group", "member"))
        self.assertEqual(target(("group", "staff", "member")), ("group", "staff"))
        for kind, name, relation in GROUPS:
            self.assertEqual(shape((kind, name, relation)), (kind, relation))
            self.assertEqual(target((kind, name, relation)), (kind, name))

    def test_they_are_new_tuples(self):
        for subject in [*OBJECTS, *GROUPS]:
            for function in (shape, target):
                self.assertIs(type(function(subject)), tuple)
                self.assertIsNot(function(subject), subject)


class TestConventions(unittest.TestCase):
    def test_arguments_by_name(self):
        row, text = ROW_TEXTS[1]
        for check in CHECKS:
            self.assertEqual(argument_names(check), ["value"])
            self.assertIs(check(value=None), False)
        self.assertIs(is_row(value=row), True)
        self.assertEqual(subject_text(subject=row[2]), "group:staff#member")
        self.assertEqual(row_text(row=row), text)
        self.assertEqual(read_subject(text="group:staff#member"), row[2])
        self.assertEqual(read_row(text=text), row)
        self.assertEqual(shape(subject=row[2]), ("group", "member"))
        self.assertEqual(target(subject=row[2]), ("group", "staff"))

    def test_arguments_stay_as_they_are(self):
        inner = [["a", "b"], "c", ["d", {"e": ["f"]}]]
        for value in (inner, (inner, inner), {"a": inner}, (("a", "b"), "c", inner), [], ["a"], {"a": "b"}):
            kept = copy.deepcopy(value)
            for function in [*CHECKS, *READERS]:
                function(value)
                self.assertEqual(value, kept)

    def test_functions_are_defined_in_the_file(self):
        for function in [*CHECKS, *READERS, subject_text, row_text, shape, target]:
            self.assertEqual(function.__module__, names.__name__)

    def test_example(self):
        self.assertEqual(
            read_row("doc:plan viewer group:staff#member"),
            (("doc", "plan"), "viewer", ("group", "staff", "member")))


if __name__ == "__main__":
    unittest.main()
