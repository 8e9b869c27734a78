"""Values that several tests need."""

# No ratio by [4]: neither an integer nor a pair of integers with the second one above 0.
NO_RATIOS = (
    None, True, False, "", "1", "12", b"12", 1.0, 0.5, 1j, object(), int,
    (), [], (1,), [1], (1, 2, 3), [1, 2, 3], (1, 0), [1, 0], (0, 0), (1, -2), [1, -2], (0, -1),
    (True, 2), (1, True), [False, 2], [1, True], (1.0, 2), (1, 2.0), ("1", 2), (1, "2"), (None, 1), (1, None),
    ((1, 2), 3), (1, (2, 3)), [[1], 2], [1, [2]], {}, {1: 2, 2: 3}, {1, 2}, range(1, 3), iter((1, 2)),
)

# Ratios by [4], each with its pair in lowest terms.
RATIOS = (
    (0, (0, 1)), (1, (1, 1)), (-1, (-1, 1)), (7, (7, 1)), (-12, (-12, 1)),
    ((0, 1), (0, 1)), ((0, 6), (0, 1)), ([0, 7], (0, 1)),
    ((1, 2), (1, 2)), ([1, 2], (1, 2)), ((-1, 2), (-1, 2)), ([-3, 4], (-3, 4)),
    ((2, 4), (1, 2)), ([6, 4], (3, 2)), ((-6, 9), (-2, 3)), ([-10, 5], (-2, 1)), ((12, 4), (3, 1)), ((5, 1), (5, 1)),
    (10 ** 40 + 1, (10 ** 40 + 1, 1)),
    ((10 ** 40, 4 * 10 ** 39), (5, 2)),
    ([-(3 ** 90), 3 ** 88 * 5], (-9, 5)),
    ((2 ** 200 + 1, 2 ** 200), (2 ** 200 + 1, 2 ** 200)),
)


def copied(value):
    """The value with all of its lists made anew, to show later that none was changed."""
    if isinstance(value, list):
        return [copied(item) for item in value]
    if isinstance(value, tuple):
        return tuple(copied(item) for item in value)
    return value


def fields_of(case, error, call, *arguments):
    """The attributes of the error that a call must raise, and with which it must leave its arguments alone."""
    before = copied(arguments)
    with case.assertRaises(error) as caught:
        call(*arguments)
    case.assertIs(caught.exception.__class__, error)
    case.assertEqual(copied(arguments), before)
    return vars(caught.exception)


def expect(case, error, fields, call, *arguments):
    """The call raises this error, with just these values, the same objects, in its fields."""
    found = fields_of(case, error, call, *arguments)
    case.assertEqual(list(found), list(fields))
    for name, value in fields.items():
        case.assertIs(found[name], value)
