"""Values of all sorts, and checks that several test files share."""

import inspect


def nested(wrap, depth, inner=()):
    value = inner
    for _ in range(depth):
        value = wrap(value)
    return value


def deep_values():
    """Values nested 300 deep, made anew on each call."""
    rows = ("rows",)
    wraps = [
        lambda value: (value,),
        lambda value: [value],
        lambda value: {"a": value},
        lambda value: (value, value),
        lambda value: (value, "a", value),
        lambda value: ("or", value, rows),
        lambda value: ("or", rows, value),
        lambda value: ("and", value, value),
        lambda value: ("but", value, "a"),
        lambda value: ("same", value),
        lambda value: ("via", value, "a"),
        lambda value: ("via", "a", value),
    ]
    return [nested(wrap, 300, inner) for wrap in wraps for inner in ((), rows, "a")]


def odd_values():
    """Values that are no name, object, group, row, rule or text of one."""
    return [
        True, False, None, 0, 1, -1, 2 ** 70, "", " ", "\n", "A", "~", "a b", "a\n", "a1", "abcdefghi",
        (), [], {}, (None,), ("",), ["a"], ["a", "b"], ["a", "b", "c"], [["a", "b"], "c", ["d", "e"]],
        {"a": "b"}, {"a": 1, "b": 2}, {0: "a", 1: "b"}, ("a", 1), (1, "a"), (True, False), (None, None),
        (("a",), "b", ("c",)), (("a", "b"), "c"), ["rows"], ["same", "a"], ["rows", ["rows"]],
        [("rows",)], {"rows": True}, ("rows", ()), (("rows",),), ((("rows",),),),
    ]


def argument_names(function):
    return list(inspect.signature(function).parameters)


def changed_values(dice, value, many):
    """Values that differ from one in a part: left out, exchanged, turned round, put in, or of another sort."""
    for _ in range(many):
        yield changed(dice, value)


def changed(dice, value):
    if isinstance(value, dict) and value and dice.random() < 0.9:
        return changed_dict(dice, value)
    if isinstance(value, (tuple, list)) and value and dice.random() < 0.85:
        return changed_sequence(dice, value)
    if isinstance(value, str) and dice.random() < 0.8:
        return dice.choice(["", "a", "b", "k", "l", "m", "or", "and", "but", "same", "via", "rows", value + "x", value * 9])
    return dice.choice([None, (), [], {}, True, 0, "rows", ("rows",), ("a",), ("a", "k"), ("same", "k"), [value], (value,)])


def changed_dict(dice, value):
    key = dice.choice(list(value))
    made = dict(value)
    way = dice.random()
    if way < 0.75:
        made[key] = changed(dice, value[key])
    elif way < 0.85:
        del made[key]
    else:
        made[dice.choice(["a", "b", "k", "l", "or", "", 1])] = made.pop(key)
    return made


def changed_sequence(dice, value):
    at = dice.randrange(len(value))
    made = list(value)
    way = dice.random()
    if way < 0.7:
        made[at] = changed(dice, value[at])
    elif way < 0.8:
        del made[at]
    elif way < 0.87:
        made.insert(at, made[at])
    elif way < 0.97:
        made.reverse()
    else:
        return made if isinstance(value, tuple) else tuple(made)
    return type(value)(made)
