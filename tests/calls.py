"""Checks of calls that several test files make."""

from copy import deepcopy


def check_error(case, error, function, *values):
    """Check that a call raises just this error and leaves its arguments as they are."""
    before = deepcopy(values)
    with case.assertRaises(error, msg=(function.__name__, values)) as caught:
        function(*values)
    case.assertIs(type(caught.exception), error, (function.__name__, values))
    case.assertEqual(repr(values), repr(before))
    return caught.exception


def check_lists_are_new(case, calls):
    """Check that each call returns another list each time, whatever was done to the one before."""
    for call in calls:
        first = call()
        expected = list(first)
        first.append(None)
        first[0] = None
        again = call()
        case.assertIsNot(again, first)
        case.assertEqual(again, expected)
