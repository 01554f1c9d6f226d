"""Values of any kind, for functions that tell what a thing is."""

import copy

from nearestheld.errors import NearError, NoText, Nothing, Wrong


class Odd:
    """An object that cannot be hashed and is equal to nothing, not even to itself."""

    __hash__ = None

    def __eq__(self, other):
        return False


def deep(maker):
    thing = maker([])
    for _ in range(18):
        thing = maker([thing])
    return thing


def things():
    """A new list of values of any kind that point [4] of the document names, and of some others."""
    huge = 10 ** 200 - 1
    return [
        None, True, False, 0, 1, -1, 2, 7, huge, -huge, 0.5, 1.0, float("nan"), float("inf"), b"num",
        "", "num", "inf", "nan", "none", "span", "even", "near", "by", "inexact", "a\nb", "~" * 3000, " ",
        (), ((),), (None,), ("num",), ("inf",), ("inf", 2), ("inf", True), ("inf", "0"), ("inf", 0, 0),
        ("nan", 0), ("nan",), ("none",), ("none", 0), ("num", 0, 0), ("num", 0, 0, 0, 0), (0, 1), (1, 0),
        (1, 2, 3), (True, True), (0, True), (1.0, 1), ("1", "2"), (huge, huge), (-huge, 1), (2, 3, -2, 1),
        (0, ()), (0, []), (1, (("input", 0),)), (True, (("input", 0),)), (-1, (("told", (1, 2)),)),
        (0, (("add",),)), (0, ((),)), (0, (None,)), (0, ([],)), (0, (([], 0),)), (0, ("told", (1, 2))),
        [], [0, 1], [[]], ["nan"], ["none"], ["num", 0, 0, 0], list(range(3000)), [None] * 3000,
        tuple(range(3000)), ("by",) * 3000, (("none",),) * 3000, (0, (("told", (1, 2)),) * 2999),
        {}, {"num": 0}, {0: 1}, {"a": [1, {"b": ()}]}, {(1, 2): None}, deep(list), deep(tuple),
        deep(lambda parts: {"k": list(parts)}), Odd(), object(), NearError(), Nothing(), NoText([1]),
        (Odd(),), (Odd(), 1), ("inf", Odd()), (0, Odd()), (Odd(), (("told", (1, 2)),)),
        ("num", 0, Odd(), 0), ("span", Odd(), Odd()), (("nan",), (Odd(),)), (("nan",), Odd()), ["num", Odd()],
    ]


def variants(thing):
    """Things that are made of a thing by exchanging, leaving out or adding parts; none is the thing."""
    found = [None, [thing], (thing,)]
    if isinstance(thing, tuple):
        found += [list(thing), thing + (0,), thing + thing[-1:] if thing else (None,), ("num",) + thing]
        found += [thing[:at] + thing[at + 1:] for at in range(len(thing))]
        if thing[::-1] != thing:
            found.append(thing[::-1])
        for at, part in enumerate(thing):
            found += [thing[:at] + (other,) + thing[at + 1:] for other in variants(part)]
    elif thing is True or thing is False:
        found += [int(thing), not thing]
    elif isinstance(thing, int):
        found += [thing + 1, thing - 1, float(thing) if abs(thing) < 2 ** 50 else "", str(thing), -thing or 5]
        found += [bool(thing)] if thing in (0, 1) else []
    elif isinstance(thing, str):
        found += [thing + "x", thing[1:], thing.upper(), thing.encode(), list(thing)]
    return found


def picture(thing):
    """A text that differs where kinds, parts or orders of things do."""
    if isinstance(thing, (list, tuple)):
        return f"{thing.__class__.__name__}({', '.join([picture(part) for part in thing])})"
    if isinstance(thing, dict):
        return f"dict({', '.join([picture(key) + ': ' + picture(thing[key]) for key in thing])})"
    if isinstance(thing, (Odd, BaseException)) or thing.__class__ is object:
        return f"<{id(thing)} {sorted(vars(thing)) if hasattr(thing, '__dict__') else ''}>"
    return f"{thing.__class__.__name__} {thing!r}"


def check_any_value(case, told, extra=()):
    """Check that told answers any value by a truth, raises nothing and leaves the value as it was."""
    for thing in things() + list(extra):
        before = picture(thing)
        with case.subTest(thing=before[:200]):
            first = told(thing)
            case.assertIn(first, (True, False))
            case.assertIs(first.__class__, bool)
            case.assertIs(told(thing), first)
            case.assertEqual(picture(thing), before)
    for thing in extra:
        case.assertIs(told(copy.deepcopy(thing)), told(thing))


def check_wrong(case, call, place, is_taken):
    """Check that call raises Wrong(place) of any value that is not taken, and leaves it as it was."""
    for thing in things():
        if not is_taken(thing):
            before = picture(thing)
            with case.subTest(thing=before[:200]):
                with case.assertRaises(Wrong) as caught:
                    call(thing)
                case.assertEqual(caught.exception.place, place)
                case.assertEqual(picture(thing), before)
