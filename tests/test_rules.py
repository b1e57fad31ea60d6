"""Rules: which values are rules, their texts and parts ([2], [5], [18])."""

import copy
import inspect
import itertools
import unittest

from sharerules import rules
from sharerules.errors import BadRules
from sharerules.rules import is_rule, parts, rule_text
from values import argument_names, deep_values, nested, odd_values

ROWS = ("rows",)
NO_RELATIONS = ["or", "and", "via", "but", "not", "rows"]
WORDS = ["rows", "same", "via", "or", "and", "but"]
RELATIONS = ["a", "z", "viewer", "abcdefgh", "same", "link", "kind", "none"]
WRONG_RELATIONS = NO_RELATIONS + [
    "", "A", "a1", "a b", "a ", "\n", "a\n", "abcdefghi", True, False, None, 0, 1, (), ("a",), ["a"], {}, {"a": "a"},
    ROWS, ("same", "a"),
]

TEXTS = [
    (("rows",), "rows"),
    (("same", "editor"), "editor"),
    (("same", "same"), "same"),
    (("via", "parent", "viewer"), "viewer via parent"),
    (("or", ("rows",), ("same", "a")), "( rows or a )"),
    (("and", ("rows",), ("same", "a")), "( rows and a )"),
    (("or", ("same", "a"), ("same", "b"), ("same", "c"), ("rows",)), "( a or b or c or rows )"),
    (("and", ("via", "l", "a"), ("same", "b"), ("via", "k", "c")), "( a via l and b and c via k )"),
    (("but", ("rows",), "banned"), "( rows but not banned )"),
    (("but", ("via", "l", "a"), "b"), "( a via l but not b )"),
    (("but", ("but", ("rows",), "a"), "b"), "( ( rows but not a ) but not b )"),
    (("or", ("rows",), ("same", "editor"), ("via", "parent", "viewer")), "( rows or editor or viewer via parent )"),
    (("and", ("or", ("rows",), ("same", "a")), ("or", ("same", "b"), ("rows",))), "( ( rows or a ) and ( b or rows ) )"),
    (("or", ("and", ("same", "a"), ("but", ("rows",), "b")), ("via", "l", "c"), ("or", ("same", "d"), ("same", "d"))),
     "( ( a and ( rows but not b ) ) or c via l or ( d or d ) )"),
    (("but", ("or", ("and", ("but", ("rows",), "a"), ("same", "b")), ("rows",)), "c"),
     "( ( ( ( rows but not a ) and b ) or rows ) but not c )"),
]

WRAPS = [
    lambda rule: ("or", rule, ROWS),
    lambda rule: ("or", ROWS, rule),
    lambda rule: ("or", ROWS, ROWS, rule),
    lambda rule: ("and", rule, ("same", "a")),
    lambda rule: ("and", ("same", "a"), rule, ROWS),
    lambda rule: ("but", rule, "a"),
]
SIMPLE = [ROWS, ("same", "a"), ("via", "l", "a")]


class TestIsRule(unittest.TestCase):
    def yes(self, value):
        self.assertIs(is_rule(value), True, value)

    def no(self, value):
        self.assertIs(is_rule(value), False)

    def test_the_six_forms(self):
        for rule, _ in TEXTS:
            self.yes(rule)

    def test_rows(self):
        for value in (("rows", "a"), ("rows", ROWS), ("rows", "rows"), ("rows", ()), ("rows", None), ("row",),
                      ("Rows",), ("",), (ROWS,), ["rows"], "rows", {"rows": 1}, (), ("same",), ("or",), ("a",)):
            self.no(value)

    def test_same(self):
        for relation in RELATIONS:
            self.yes(("same", relation))
            self.no((relation, relation) if relation != "same" else ("a", "same"))
        for relation in WRONG_RELATIONS:
            self.no(("same", relation))
        for value in (("same",), ("same", "a", "b"), ("same", "a", ROWS), ["same", "a"], ("same", ("same", "a"))):
            self.no(value)

    def test_via(self):
        for link, relation in itertools.product(RELATIONS, repeat=2):
            self.yes(("via", link, relation))
        for wrong in WRONG_RELATIONS:
            self.no(("via", wrong, "a"))
            self.no(("via", "a", wrong))
            self.no(("via", wrong, wrong))
        for value in (("via",), ("via", "a"), ("via", "a", "b", "c"), ["via", "a", "b"], ("via", ("a", "b"))):
            self.no(value)

    def test_or_and_and(self):
        for word in ("or", "and"):
            for many in range(2, 8):
                for simple in itertools.islice(itertools.product(SIMPLE, repeat=many), 50):
                    self.yes((word, *simple))
            self.yes((word, *([ROWS] * 100)))
            for value in ((word,), (word, ROWS), (word, ("same", "a")), (word, "a", "b"), (word, (ROWS, ROWS)),
                          (word, [ROWS, ROWS]), [word, ROWS, ROWS], (word, ROWS, word, ROWS), (ROWS, word, ROWS),
                          (word, ROWS, ROWS, ()), (word, ROWS, ROWS, "a")):
                self.no(value)
            for wrong in [*odd_values(), "rows", "a", ["rows"], ("rows", "a"), ("same", "or"), ("or", ROWS)]:
                self.no((word, wrong, ROWS))
                self.no((word, ROWS, wrong))
                self.no((word, ROWS, wrong, ROWS))
                self.no((word, ROWS, ROWS, wrong))

    def test_but(self):
        for relation in RELATIONS:
            for simple in SIMPLE:
                self.yes(("but", simple, relation))
        for relation in WRONG_RELATIONS:
            self.no(("but", ROWS, relation))
        for wrong in [*odd_values(), "rows", "a", ["rows"], ("rows", "a"), ("same", "or"), ("or", ROWS)]:
            self.no(("but", wrong, "a"))
        for value in (("but",), ("but", ROWS), ("but", "a"), ("but", "a", ROWS), ("but", ROWS, "a", "b"),
                      ("but", ROWS, ROWS), ("but", ROWS, ROWS, "a"), ["but", ROWS, "a"]):
            self.no(value)

    def test_other_words(self):
        for word in ["not", "", "OR", "Or", "or ", " or", "ro", "a", "viewer", None, True, 0, 1, (), [], {}, ("or",),
                     ["or"], {"or": 1}, ROWS]:
            for rest in ((), ("a",), ("a", "b"), (ROWS, ROWS), (ROWS, "a"), (ROWS,)):
                self.no((word, *rest))

    def test_each_form_with_the_parts_of_the_others(self):
        rests = {
            "rows": (), "same": ("a",), "via": ("a", "b"), "or": (ROWS, ROWS), "and": (ROWS, ROWS), "but": (ROWS, "a"),
        }
        for word, other in itertools.product(WORDS, WORDS):
            right = word == other or {word, other} == {"or", "and"}
            self.assertIs(is_rule((word, *rests[other])), right, (word, other))

    def test_five_deep_and_six_deep(self):
        for simple in SIMPLE:
            for wraps in itertools.product(WRAPS, repeat=4):
                rule = simple
                for wrap in wraps:
                    rule = wrap(rule)
                self.yes(rule)
                self.no(wraps[0](rule))
        for wrap, simple in itertools.product(WRAPS, SIMPLE):
            for depth in range(1, 40):
                self.assertIs(is_rule(nested(wrap, depth - 1, simple)), depth <= 5)

    def test_one_deep_branch_is_enough(self):
        four = nested(WRAPS[0], 3, ROWS)
        five = nested(WRAPS[5], 4, ROWS)
        self.yes(("or", four, four, four, four))
        self.no(("or", four, four, five, four))
        self.no(("or", five, four))
        self.no(("and", four, five))
        self.no(("but", five, "a"))

    def test_broken_at_any_depth(self):
        for wraps in itertools.product(WRAPS, repeat=3):
            for wrong in ((), ("or", ROWS), ("same", "not"), "rows", ["rows"], None, ("but", ROWS, "or")):
                value = wrong
                for wrap in wraps:
                    value = wrap(value)
                    self.no(value)

    def test_any_other_value(self):
        for value in odd_values():
            self.no(value)
        for value in (BadRules(ROWS), parts(ROWS), iter([ROWS]), ("or", BadRules(1), ROWS), (BadRules(1), "a")):
            self.no(value)

    def test_deep_values(self):
        for value in deep_values():
            for word in WORDS:
                for whole in (value, (word, value), (word, value, value), (word, ROWS, value), (word, value, ROWS),
                              (word, value, "a"), (word, "a", value), (value, ROWS), (value,)):
                    self.no(whole)
        for wrap in [*WRAPS, lambda rule: ("or", rule, rule), lambda rule: ("and", rule, rule, rule)]:
            self.no(nested(wrap, 300, ROWS))


class TestRuleText(unittest.TestCase):
    def test_texts(self):
        for rule, text in TEXTS:
            self.assertEqual(rule_text(rule), text)

    def test_nested_texts(self):
        for rule, text in TEXTS:
            self.assertEqual(rule_text(("or", rule, ROWS)), f"( {text} or rows )")
            self.assertEqual(rule_text(("and", ("same", "a"), rule, rule)), f"( a and {text} and {text} )")
            self.assertEqual(rule_text(("but", rule, "a")), f"( {text} but not a )")

    def test_beyond_the_limit(self):
        rule = nested(WRAPS[5], 8, ROWS)
        self.assertEqual(rule_text(rule), "( " * 8 + "rows" + " but not a )" * 8)


class TestParts(unittest.TestCase):
    def test_simple_rules(self):
        for rule in SIMPLE:
            self.assertEqual(list(parts(rule)), [rule])

    def test_the_rules_within(self):
        first, second, third = ("same", "a"), ("via", "l", "b"), ("rows",)
        inner = ("and", second, third)
        refusing = ("but", first, "c")
        self.assertEqual(list(parts(("or", first, second))), [("or", first, second), first, second])
        self.assertEqual(list(parts(inner)), [inner, second, third])
        self.assertEqual(list(parts(refusing)), [refusing, first])
        rule = ("or", refusing, inner, third)
        self.assertEqual(list(parts(rule)), [rule, refusing, first, inner, second, third, third])
        rule = ("but", ("or", inner, ("but", refusing, "d")), "e")
        self.assertEqual(
            list(parts(rule)),
            [rule, rule[1], inner, second, third, ("but", refusing, "d"), refusing, first])

    def test_equal_rules_come_as_often_as_they_stand_there(self):
        self.assertEqual(list(parts(("or", ROWS, ROWS, ROWS))), [("or", ROWS, ROWS, ROWS), ROWS, ROWS, ROWS])

    def test_all_are_rules(self):
        for rule, text in TEXTS:
            found = list(parts(rule))
            self.assertEqual(found[0], rule)
            self.assertTrue(all(is_rule(part) for part in found))
            # Each rule within another one stands in the text by a word of its own.
            self.assertEqual(len(found), text.count("(") + sum(
                1 for part in found if part[0] in ("rows", "same", "via")))

    def test_beyond_the_limit(self):
        rule = nested(WRAPS[5], 8, ROWS)
        self.assertEqual([part[0] for part in parts(rule)], ["but"] * 8 + ["rows"])

    def test_it_yields(self):
        found = parts(("or", ROWS, ("same", "a")))
        self.assertTrue(inspect.isgenerator(found))
        self.assertEqual(next(found), ("or", ROWS, ("same", "a")))
        self.assertEqual(list(found), [ROWS, ("same", "a")])


class TestConventions(unittest.TestCase):
    def test_arguments_by_name(self):
        self.assertEqual(argument_names(is_rule), ["value"])
        self.assertEqual(argument_names(rule_text), ["rule"])
        self.assertEqual(argument_names(parts), ["rule"])
        self.assertIs(is_rule(value=ROWS), True)
        self.assertEqual(rule_text(rule=("same", "a")), "a")
        self.assertEqual(list(parts(rule=("same", "a"))), [("same", "a")])

    def test_functions_are_defined_in_the_file(self):
        for function in (is_rule, rule_text, parts):
            self.assertEqual(function.__module__, rules.__name__)

    def test_arguments_stay_as_they_are(self):
        for value in (["or", ["rows"], ["rows"]], ("or", ["rows"], {"a": [ROWS]}), {"or": [ROWS, ROWS]}):
            kept = copy.deepcopy(value)
            is_rule(value)
            self.assertEqual(value, kept)

    def test_example(self):
        self.assertEqual(
            rule_text(("or", ("rows",), ("same", "editor"), ("via", "parent", "viewer"))),
            "( rows or editor or viewer via parent )")


if __name__ == "__main__":
    unittest.main()
