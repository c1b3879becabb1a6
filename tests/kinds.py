"""Values of all kinds, and a check of what is raised, for all tests."""

import copy

from toldpushes.errors import TooMany, UnlikeSizes
from toldpushes.plans import Plan
from toldpushes.ratios import Ratio


class Stubborn:
    """A value that cannot be compared, measured, iterated over or shown."""

    def __eq__(self, other):
        raise AssertionError("compared")

    def __len__(self):
        raise AssertionError("measured")

    def __iter__(self):
        raise AssertionError("iterated over")

    def __bool__(self):
        raise AssertionError("tested")


def looped():
    """A list that contains itself."""
    value = []
    value.append(value)
    return value


# No list, no tuple and no number: of no use as any argument.
ODD_KINDS = [None, True, False, "", "a", "01", "[1]", b"", b"\x01", {}, {0: 1}, set(), {0, 1}, frozenset([1]), range(2),
             object(), object, len, lambda: 1, Exception("x"), UnlikeSizes(), iter([1]), 1j, Stubborn()]

NUMBER_KINDS = [0, 1, -1, 6, 7, 61, 10 ** 30, -10 ** 30, Ratio(0), Ratio(1), Ratio(2), Ratio(-3, 2)]

LIST_KINDS = [[], (), [0], (0,), [1, 0], [True], [[]], [[[]]], [()], [[True]], [None], ["a"], [[1, 2], [3]], [[], []],
              [(0, 1)], [[0, 1]], [(0, True)], [(0, 1, 2)], [(0,)], [Stubborn()], [[Stubborn()]], looped(), [{}], [[{}]],
              [Plan(1, [], [])]]

ALL_KINDS = ODD_KINDS + NUMBER_KINDS + LIST_KINDS + [Plan(0, [], []), Plan(2, [(0, 1)], [])]


def same(value, other):
    """Whether both are one value, or equal values of one kind throughout."""
    if value is other:
        return True
    if type(value) is not type(other) or isinstance(value, Stubborn):
        return False
    if isinstance(value, (list, tuple)):
        return len(value) == len(other) and all(same(a, b) for a, b in zip(value, other))
    return value == other


def check_refused(test, error, value, call, /, *passed, **named):
    """The call raises just this error, with the value as its attribute."""
    with test.assertRaises(error) as caught:
        call(*passed, **named)
    test.assertIs(type(caught.exception), error)
    test.assertTrue(same(caught.exception.value, value), (caught.exception.value, value))


def check_stopped(test, error, call, /, *passed, **named):
    """The call raises just this error, one without attributes."""
    with test.assertRaises(error) as caught:
        call(*passed, **named)
    test.assertIs(type(caught.exception), error)
    test.assertEqual(vars(caught.exception), {})


def check_too_many(test, what, limit, call, /, *passed, **named):
    """The call raises TooMany of this, with this limit."""
    with test.assertRaises(TooMany) as caught:
        call(*passed, **named)
    test.assertIs(type(caught.exception), TooMany)
    test.assertEqual((caught.exception.what, caught.exception.limit), (what, limit))


def check_parameters(test, call, valid, wrong):
    """Each wrong value of a parameter is refused, by place ahead of wrong ones behind it, and by name.

    Valid has a value for each name, in sequence; wrong has for each name a tuple of the error and of wrong values.
    """
    names = list(valid)
    test.assertEqual(list(wrong), names)
    for at, (name, (error, values)) in enumerate(wrong.items()):
        ahead, behind = list(valid.values())[:at], ["later"] * (len(names) - at - 1)
        for value in values:
            check_refused(test, error, value, call, *ahead, value, *behind)
            check_refused(test, error, value, call, **{**dict(reversed(valid.items())), name: value})


def lists_in(value):
    """All lists in a value, at whatever depth, each as often as it is found."""
    if not isinstance(value, (list, tuple)):
        return []
    return [value] * isinstance(value, list) + [one for part in value for one in lists_in(part)]


def check_fresh(test, call, /, *passed):
    """What the call tells has new lists, and changing them changes nothing later; what was passed stays."""
    before = copy.deepcopy(passed)
    told = call(*passed)
    kept, lists = copy.deepcopy(told), lists_in(told)
    test.assertEqual(len({id(one) for one in lists}), len(lists))
    test.assertFalse({id(one) for one in lists} & {id(one) for one in lists_in(passed)})
    for one in lists:
        one.append("changed")
    test.assertTrue(same(passed, before))
    again = call(*passed)
    test.assertTrue(same(again, kept), (again, kept))
    test.assertTrue(same(call(*before), kept))


def all_but(*valid):
    """The values of all kinds but those that are told."""
    return [value for value in ALL_KINDS if not any(same(value, other) for other in valid)]
