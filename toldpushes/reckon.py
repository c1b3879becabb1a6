"""Rows of NUMBERS, reckoned exactly: what leads to what, and steps."""

from math import lcm

from toldpushes.ratios import Ratio, as_ratio


def led(numbers, other):
    """The sum of the products of the NUMBERS at the same places."""
    return Ratio.total([number * worth for number, worth in zip(numbers, other)])


def told(rows):
    """The rows with Ratios for their NUMBERS, as new lists."""
    return [[as_ratio(number) for number in row] for row in rows]


def cleared(row):
    """A tuple: the row's Ratios times the least COUNT above 0 that makes INTEGERS of all, and this COUNT."""
    bottom = 1
    for number in row:
        bottom = lcm(bottom, number.bottom)
    return [number.top * (bottom // number.bottom) for number in row], bottom


def row_with(rows, first, place):
    """Where, from the first row on, a row has another number than 0 at the place; None if none has."""
    for at in range(first, len(rows)):
        if rows[at][place] != 0:
            return at
    return None


def taken_off(row, lead, place, past):
    """The row, made 0 at the place by the leading row, and divided by the past head."""
    head, number = lead[place], row[place]
    return [(head * here - number * there) // past for here, there in zip(row, lead)]


def in_whole_steps(rows):
    """Rows of INTEGERS in steps, but with one INTEGER at all heads: a tuple (rows, places, head, turns).

    Places are those of the heads; behind the rows with heads all others are noughts; turns is how many times two
    neighbouring rows change places for it.
    """
    wide = len(rows[0]) if rows else 0
    places, head, turns = [], 1, 0
    for place in range(wide):
        first = len(places)
        at = row_with(rows, first, place)
        if at is None:
            continue
        lead = rows[at]
        turns = turns + at - first
        rows = [*rows[:first], lead, *rows[first:at], *rows[at + 1:]]
        # Each number is a determinant of the rows' own numbers: so the head before divides it without a rest,
        # and numbers stay as short as such determinants are.
        rows = [row if k == first else taken_off(row, lead, place, head) for k, row in enumerate(rows)]
        head = lead[place]
        places.append(place)
    return rows, places, head, turns


def in_steps(rows):
    """A tuple: the steps of rows of NUMBERS, and the places of their heads."""
    whole, places, head, _ = in_whole_steps([cleared(row)[0] for row in told(rows)])
    return [[Ratio(number, head) for number in row] for row in whole[:len(places)]], places


def determinant_of(table):
    """The determinant of a table."""
    parts = [cleared(row) for row in told(table)]
    _, places, head, turns = in_whole_steps([whole for whole, _ in parts])
    if len(places) < len(parts):
        return Ratio(0)
    found = Ratio(head if turns % 2 == 0 else -head)
    for _, bottom in parts:
        found = found.over(bottom)
    return found
