"""Values of all kinds, and a check of what is raised, for all tests."""

from toldpushes.errors import UnlikeSizes
from toldpushes.plans import Plan
from toldpushes.ratios import Ratio


class Stubborn:
    """A value that cannot be compared, measured, iterated over or shown."""

    def __eq__(self, other):
        raise AssertionError("compared")

    def __len__(self):
        raise AssertionError("measured")

    def __iter__(self):
        raise AssertionError("iterated over")

    def __bool__(self):
        raise AssertionError("tested")


def looped():
    """A list that contains itself."""
    value = []
    value.append(value)
    return value


# No list, no tuple and no number: of no use as any argument.
ODD_KINDS = [None, True, False, "", "a", "01", "[1]", b"", b"\x01", {}, {0: 1}, set(), {0, 1}, frozenset([1]), range(2),
             object(), object, len, lambda: 1, Exception("x"), UnlikeSizes(), iter([1]), 1j, Stubborn()]

NUMBER_KINDS = [0, 1, -1, 6, 7, 61, 10 ** 30, -10 ** 30, Ratio(0), Ratio(1), Ratio(2), Ratio(-3, 2)]

LIST_KINDS = [[], (), [0], (0,), [1, 0], [True], [[]], [[[]]], [()], [[True]], [None], ["a"], [[1, 2], [3]], [[], []],
              [(0, 1)], [[0, 1]], [(0, True)], [(0, 1, 2)], [(0,)], [Stubborn()], [[Stubborn()]], looped(), [{}], [[{}]],
              [Plan(1, [], [])]]

ALL_KINDS = ODD_KINDS + NUMBER_KINDS + LIST_KINDS + [Plan(0, [], []), Plan(2, [(0, 1)], [])]


def same(value, other):
    """Whether both are one value, or equal values of one kind throughout."""
    if value is other:
        return True
    if type(value) is not type(other) or isinstance(value, Stubborn):
        return False
    if isinstance(value, (list, tuple)):
        return len(value) == len(other) and all(same(a, b) for a, b in zip(value, other))
    return value == other


def check_refused(test, error, value, call, /, *passed, **named):
    """The call raises just this error, with the value as its attribute."""
    with test.assertRaises(error) as caught:
        call(*passed, **named)
    test.assertIs(type(caught.exception), error)
    test.assertTrue(same(caught.exception.value, value), (caught.exception.value, value))


def check_stopped(test, error, call, /, *passed, **named):
    """The call raises just this error, one without attributes."""
    with test.assertRaises(error) as caught:
        call(*passed, **named)
    test.assertIs(type(caught.exception), error)
    test.assertEqual(vars(caught.exception), {})


def all_but(*valid):
    """The values of all kinds but those that are told."""
    return [value for value in ALL_KINDS if not any(same(value, other) for other in valid)]
