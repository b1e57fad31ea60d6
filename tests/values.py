"""Values of all sorts, and checks that several test files share."""

import inspect


def nested(wrap, depth, inner=()):
    value = inner
    for _ in range(depth):
        value = wrap(value)
    return value


def deep_values():
    """Values nested 300 deep, made anew on each call."""
    rows = ("rows",)
    wraps = [
        lambda value: (value,),
        lambda value: [value],
        lambda value: {"a": value},
        lambda value: (value, value),
        lambda value: (value, "a", value),
        lambda value: ("or", value, rows),
        lambda value: ("or", rows, value),
        lambda value: ("and", value, value),
        lambda value: ("but", value, "a"),
        lambda value: ("same", value),
        lambda value: ("via", value, "a"),
        lambda value: ("via", "a", value),
    ]
    return [nested(wrap, 300, inner) for wrap in wraps for inner in ((), rows, "a")]


def odd_values():
    """Values that are no name, object, group, row, rule or text of one."""
    return [
        True, False, None, 0, 1, -1, 2 ** 70, "", " ", "\n", "A", "~", "a b", "a\n", "a1", "abcdefghi",
        (), [], {}, (None,), ("",), ["a"], ["a", "b"], ["a", "b", "c"], [["a", "b"], "c", ["d", "e"]],
        {"a": "b"}, {"a": 1, "b": 2}, {0: "a", 1: "b"}, ("a", 1), (1, "a"), (True, False), (None, None),
        (("a",), "b", ("c",)), (("a", "b"), "c"), ["rows"], ["same", "a"], ["rows", ["rows"]],
        [("rows",)], {"rows": True}, ("rows", ()), (("rows",),), ((("rows",),),),
    ]


def argument_names(function):
    return list(inspect.signature(function).parameters)
