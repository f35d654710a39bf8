"""[2]: that a call in all its ways of writing gives equal answers, made of tuples, and leaves its arguments alone."""

import copy


def listed(thing, down=0):
    """The same with lists for all tuples that are so many levels down, or further."""
    if not isinstance(thing, (tuple, list)):
        return thing
    parts = [listed(part, down - 1) for part in thing]
    return parts if down <= 0 else tuple(parts)


def answer_of(function, *values, **named):
    """What a call returns, or the class of its error with what that keeps."""
    try:
        return ("returned", function(*values, **named))
    except (LookupError, ValueError) as error:
        return (type(error), vars(error))


def inner_kinds(answer):
    """The kinds of the values within an answer, one within another."""
    if isinstance(answer, (tuple, list)):
        return (type(answer), [inner_kinds(part) for part in answer])
    return type(answer)


def has_inner_list(answer):
    if not isinstance(answer, (tuple, list)):
        return False
    return any(isinstance(part, list) or has_inner_list(part) for part in answer)


def check_ways(case, function, plain=(), **given):
    """given: the arguments in their order, made of tuples; plain: the names of those that take no lists."""
    expected = answer_of(function, *given.values())
    kinds = inner_kinds(expected[1])
    case.assertFalse(has_inner_list(expected[1]), function)
    for down in (0, 1, 2):
        named = {name: part if name in plain else listed(part, down) for name, part in given.items()}
        kept = copy.deepcopy(named)
        backwards = dict(reversed(named.items()))
        for again in (answer_of(function, **given), answer_of(function, *named.values()),
                      answer_of(function, **named), answer_of(function, **backwards)):
            case.assertEqual(again, expected, (function, named))
            case.assertEqual(inner_kinds(again[1]), kinds, (function, named))
            if isinstance(expected[1], list):
                case.assertIsNot(again[1], expected[1])
        case.assertEqual((named, inner_kinds(list(named.values()))), (kept, inner_kinds(list(kept.values()))))
    if isinstance(expected[1], list):
        check_own_list(case, function, given)


def check_own_list(case, function, given):
    """What is done to a returned list is not seen by the next call."""
    answer = function(**given)
    kept = list(answer)
    answer.append("more")
    case.assertEqual(function(**given), kept)
