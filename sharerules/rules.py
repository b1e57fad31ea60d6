"""Rules: which values are rules, their texts, and the rules within them."""

from sharerules.names import is_relation

DEEPEST_RULE = 5


def is_rule(value):
    """Whether a value is a rule of any names, nested at most 5 deep."""
    return _is_rule_within(value, DEEPEST_RULE)


def _is_rule_within(value, depth):
    # The depth that is left ends the walk, however deep the value itself is.
    if depth == 0 or not isinstance(value, tuple) or not value:
        return False
    word = value[0]
    if word == "rows":
        return len(value) == 1
    if word == "same":
        return len(value) == 2 and is_relation(value[1])
    if word == "via":
        return len(value) == 3 and is_relation(value[1]) and is_relation(value[2])
    if word == "but":
        return len(value) == 3 and is_relation(value[2]) and _is_rule_within(value[1], depth - 1)
    if word == "or" or word == "and":
        return len(value) >= 3 and _are_rules_within(value[1:], depth - 1)
    return False


def _are_rules_within(values, depth):
    for value in values:
        if not _is_rule_within(value, depth):
            return False
    return True


def rule_text(rule):
    """The text of a rule."""
    word = rule[0]
    if word == "rows":
        return "rows"
    if word == "same":
        return rule[1]
    if word == "via":
        return f"{rule[2]} via {rule[1]}"
    if word == "but":
        return f"( {rule_text(rule[1])} but not {rule[2]} )"
    between = f" {word} "
    inner = between.join([rule_text(part) for part in rule[1:]])
    return f"( {inner} )"


def parts(rule):
    """Yields the rule itself and all rules within it, the outer ones first."""
    yield rule
    for part in rule[1:]:
        # Beside its word, whatever in a rule is no rule is a string.
        if isinstance(part, tuple):
            yield from parts(part)
