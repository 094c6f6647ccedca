"""What the tests share: values of every kind, and a check of a raised error with its values."""

from newesttells.errors import Missing, TellsError


def any_values():
    """Values of the kinds that may be passed where an error or the answer False is listed."""
    deep = [[[[(1, "a")]]]]
    return [None, True, False, 0, 1, -1, 2, 13, 10 ** 30, -(10 ** 31) + 1, "", "a", "B", ".", "..", "0.", "++", "\n",
            "a b", (), ("a",), ("a", 2), ("a", True), (1, 2), (True, 1), [], ["a"], [("a", 2)], ["a", 2], {}, {"a": 1},
            {1: "a"}, {"a": [1, None]}, deep, (deep,), TellsError(), Missing()]


def error_of(call, *args, **named):
    """The error that a call raises, or None."""
    try:
        call(*args, **named)
    except (ValueError, LookupError) as error:
        return error
    return None


def values_of(error):
    """The attributes of an error without its code."""
    values = dict(vars(error))
    values.pop("code", None)
    return values


def same(one, other):
    """Equality in which True is not 1, also within tuples, lists and dicts."""
    if type(one) is not type(other):
        return False
    if isinstance(one, (list, tuple)):
        return len(one) == len(other) and all(same(a, b) for a, b in zip(one, other))
    if isinstance(one, dict):
        return list(one) == list(other) and all(same(one[key], other[key]) for key in one)
    return one == other


def check_raises(test, kind, values, call, *args, **named):
    """Checks that a call raises just this class of error with just these attributes."""
    error = error_of(call, *args, **named)
    test.assertIsNotNone(error, f"{kind.__name__} is not raised for {args!r} {named!r}")
    test.assertIs(type(error), kind, f"for {args!r} {named!r}: {error!r}")
    test.assertTrue(same(values_of(error), values), f"for {args!r} {named!r}: {values_of(error)!r}, not {values!r}")
    test.assertEqual(error.code, kind.__name__)
