"""Ratio: lowest terms, operators, comparisons, totals and how it is shown."""

import operator
import random
import unittest
from fractions import Fraction

from tests.kinds import ALL_KINDS, LIST_KINDS, ODD_KINDS, check_refused, check_stopped
from toldpushes.errors import DividedByZero, InvalidNumber
from toldpushes.ratios import Ratio, as_ratio, is_number

NO_INTEGERS = ODD_KINDS + LIST_KINDS + [Ratio(0), Ratio(1), Ratio(1, 2)]
NO_NUMBERS = ODD_KINDS + LIST_KINDS
GREAT = 10 ** 700 + 1


def some_numbers():
    """INTEGERS and Ratios of either sign, small and great."""
    chance = random.Random(11)
    tops = [0, 1, -1, 2, -6, GREAT, -GREAT] + [chance.randint(-999999, 999999) for _ in range(8)]
    ratios = [Ratio(top, chance.choice([1, -1, 2, 6, -9, 10 ** 6, GREAT])) for top in tops]
    return [0, 1, -1, 5, -GREAT] + ratios


def fraction(number):
    """The Fraction that is worth as much."""
    return Fraction(number.top, number.bottom) if isinstance(number, Ratio) else Fraction(number)


class Made(unittest.TestCase):

    def test_lowest_terms(self):
        wanted = {(4, -6): (-2, 3), (-4, -6): (2, 3), (0, -5): (0, 1), (0, 5): (0, 1), (7, 1): (7, 1), (7, -7): (-1, 1),
                  (6, 4): (3, 2), (-6, 4): (-3, 2), (12 * GREAT, -8 * GREAT): (-3, 2), (1, GREAT): (1, GREAT)}
        for (top, bottom), (low_top, low_bottom) in wanted.items():
            made = Ratio(top, bottom)
            self.assertEqual((made.top, made.bottom), (low_top, low_bottom))
            self.assertIs(type(made.top), int)
            self.assertIs(type(made.bottom), int)

    def test_all_small_ones(self):
        for top in range(-20, 21):
            for bottom in [*range(-20, 0), *range(1, 21)]:
                made, wanted = Ratio(top, bottom), Fraction(top, bottom)
                self.assertEqual((made.top, made.bottom), (wanted.numerator, wanted.denominator))

    def test_parameters(self):
        self.assertEqual(Ratio(5), Ratio(5, 1))
        self.assertEqual(Ratio(bottom=4, top=2), Ratio(1, 2))
        self.assertEqual(Ratio(top=3).bottom, 1)

    def test_wrong_parameters(self):
        check_refused(self, InvalidNumber, 0, Ratio, 1, 0)
        check_refused(self, InvalidNumber, 0, Ratio, top=0, bottom=0)
        for value in NO_INTEGERS:
            check_refused(self, InvalidNumber, value, Ratio, value)
            check_refused(self, InvalidNumber, value, Ratio, value, 0)
            check_refused(self, InvalidNumber, value, Ratio, value, "later")
            check_refused(self, InvalidNumber, value, Ratio, 1, value)
            check_refused(self, InvalidNumber, value, Ratio, top=1, bottom=value)

    def test_never_changes(self):
        number = Ratio(3, 2)
        for name, value in [("top", 5), ("bottom", 5), ("sign", 1), ("is_whole", True)]:
            with self.assertRaises(AttributeError):
                setattr(number, name, value)
        kept = number
        number += 1
        number -= Ratio(1, 2)
        number *= 4
        self.assertEqual((number, kept), (Ratio(8), Ratio(3, 2)))
        for deed in (lambda: -kept, kept.size, lambda: kept.over(7), lambda: kept + 1, lambda: 1 - kept, lambda: kept * 0,
                     lambda: Ratio.total([kept, kept])):
            deed()
            self.assertEqual((kept.top, kept.bottom), (3, 2))


class Reckoned(unittest.TestCase):

    def test_operators(self):
        for sign in (operator.add, operator.sub, operator.mul):
            for left in some_numbers():
                for right in some_numbers():
                    if isinstance(left, Ratio) or isinstance(right, Ratio):
                        self.check_worth(sign(left, right), sign(fraction(left), fraction(right)))

    def check_worth(self, number, wanted):
        self.assertIs(type(number), Ratio)
        self.assertEqual((number.top, number.bottom), (wanted.numerator, wanted.denominator))

    def test_front_size_and_sign(self):
        for number in some_numbers():
            if isinstance(number, Ratio):
                worth = fraction(number)
                self.check_worth(-number, -worth)
                self.check_worth(number.size(), abs(worth))
                self.assertIs(type(number.sign), int)
                self.assertEqual(number.sign, (worth > 0) - (worth < 0))
                self.assertIs(number.is_whole, worth.denominator == 1)

    def test_signs(self):
        self.assertEqual([Ratio(-1, 3).sign, Ratio(0).sign, Ratio(GREAT).sign], [-1, 0, 1])
        self.assertEqual([Ratio(4, 2).is_whole, Ratio(1, 2).is_whole, Ratio(0, 3).is_whole], [True, False, True])

    def test_wrong_on_the_right(self):
        for value in NO_NUMBERS:
            for sign in (operator.add, operator.sub, operator.mul):
                check_refused(self, InvalidNumber, value, sign, Ratio(1, 2), value)

    def test_over(self):
        for left in some_numbers():
            for right in some_numbers():
                if isinstance(left, Ratio) and fraction(right) != 0:
                    self.check_worth(left.over(right), fraction(left) / fraction(right))
        self.assertEqual(Ratio(1, 2).over(other=Ratio(-1, 4)), Ratio(-2))

    def test_over_wrong(self):
        for nought in (0, Ratio(0)):
            check_stopped(self, DividedByZero, Ratio(1, 2).over, nought)
            check_stopped(self, DividedByZero, Ratio(0).over, other=nought)
        for value in NO_NUMBERS:
            check_refused(self, InvalidNumber, value, Ratio(1).over, value)

    def test_total(self):
        numbers = some_numbers()
        self.check_worth(Ratio.total(numbers), sum(fraction(number) for number in numbers))
        self.check_worth(Ratio.total(tuple(numbers)), sum(fraction(number) for number in numbers))
        self.check_worth(Ratio.total([]), Fraction(0))
        self.check_worth(Ratio.total(()), Fraction(0))
        self.check_worth(Ratio.total(numbers=[3]), Fraction(3))
        self.check_worth(Ratio.total([1, 2]), Fraction(3))

    def test_total_wrong(self):
        for value in ODD_KINDS + [5, Ratio(1, 2)]:
            check_refused(self, InvalidNumber, value, Ratio.total, value)
        for value in NO_NUMBERS:
            check_refused(self, InvalidNumber, value, Ratio.total, [value])
            check_refused(self, InvalidNumber, value, Ratio.total, (1, Ratio(1, 2), value, "later"))

    def test_total_leaves_the_list(self):
        numbers = [1, Ratio(1, 2)]
        Ratio.total(numbers)
        self.assertEqual(numbers, [1, Ratio(1, 2)])


class Compared(unittest.TestCase):

    def test_less(self):
        for left in some_numbers():
            for right in some_numbers():
                if isinstance(left, Ratio):
                    self.assertIs(left.is_below(right), fraction(left) < fraction(right))
                    self.assertIs(left.is_at_most(right), fraction(left) <= fraction(right))
        self.assertIs(Ratio(1, 3).is_below(other=1), True)
        self.assertIs(Ratio(2).is_at_most(other=2), True)
        self.assertIs(Ratio(2).is_below(2), False)

    def test_less_wrong(self):
        for value in NO_NUMBERS:
            check_refused(self, InvalidNumber, value, Ratio(1).is_below, value)
            check_refused(self, InvalidNumber, value, Ratio(1).is_at_most, value)

    def test_equal(self):
        for left in some_numbers():
            for right in some_numbers():
                if isinstance(left, Ratio) and isinstance(right, Ratio):
                    self.assertIs(left == right, fraction(left) == fraction(right))
                    self.assertIs(left != right, fraction(left) != fraction(right))

    def test_equal_to_ratios_alone(self):
        kinds = [value for value in NO_NUMBERS if type(value).__name__ != "Stubborn"]
        for value in kinds + [0, 1, -1, "1", "Ratio(1, 1)", Fraction(1)]:
            for number in (Ratio(0), Ratio(1), Ratio(-1)):
                self.assertIs(number == value, False)
                self.assertIs(value == number, False)
                self.assertIs(number != value, True)
                self.assertIs(value != number, True)


class Shown(unittest.TestCase):

    def test_str(self):
        for number, text in [(Ratio(7, 2), "7/2"), (Ratio(-7, 2), "-7/2"), (Ratio(4, 2), "2"), (Ratio(0, -3), "0"),
                             (Ratio(-5), "-5"), (Ratio(1, GREAT), f"1/{GREAT}"), (Ratio(-GREAT), f"-{GREAT}")]:
            self.assertEqual(str(number), text)

    def test_repr(self):
        for number, text in [(Ratio(3, 2), "Ratio(3, 2)"), (Ratio(4, -6), "Ratio(-2, 3)"), (Ratio(0), "Ratio(0, 1)"),
                             (Ratio(5), "Ratio(5, 1)")]:
            self.assertEqual(repr(number), text)
            self.assertEqual(repr([number]), f"[{text}]")

    def test_as_ratio(self):
        self.assertEqual([as_ratio(3), as_ratio(Ratio(1, 2))], [Ratio(3), Ratio(1, 2)])
        for value in ALL_KINDS:
            if not is_number(value):
                check_refused(self, InvalidNumber, value, as_ratio, value)


class Listed(unittest.TestCase):

    def test_stands_in_the_class_itself(self):
        for name in ("__init__ __add__ __radd__ __sub__ __rsub__ __mul__ __rmul__ __neg__ __eq__ __str__ __repr__ top "
                     "bottom sign is_whole over size is_below is_at_most total").split():
            self.assertIn(name, vars(Ratio))


if __name__ == "__main__":
    unittest.main()
