"""What several tests need."""

import copy


def raised(function, *arguments):
    """The error that a call raises, as (kind, fields), or None."""
    try:
        function(*arguments)
    except Exception as error:
        return type(error), dict(vars(error))
    return None


def result(function, *arguments):
    """What a call returns or raises."""
    try:
        return "returned", function(*arguments)
    except Exception as error:
        return "raised", type(error), dict(vars(error))


def keeps_arguments(test, function, *arguments):
    """Call a function; fail if it changes an argument or returns a list or dict that it was passed. What it returns."""
    before = copy.deepcopy(arguments)
    told = function(*arguments)
    test.assertEqual(arguments, before)
    test.assertEqual(repr(arguments), repr(before))
    passed = {id(part) for argument in arguments for part in changeable(argument)}
    test.assertTrue(all(id(part) not in passed for part in changeable(told)), function.__name__)
    return told


def changeable(thing):
    """All lists and dicts in a thing."""
    found = [thing] if isinstance(thing, (list, dict)) else []
    if isinstance(thing, dict):
        parts = list(thing.values())
    else:
        parts = list(thing) if isinstance(thing, (list, tuple)) else []
    return found + [other for part in parts for other in changeable(part)]
