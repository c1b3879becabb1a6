"""Tables reckoned with Fractions, straight by the definitions, for the tests."""

from fractions import Fraction

from toldpushes.ratios import Ratio


def of_fractions(table):
    return [[Fraction(number.top, number.bottom) if isinstance(number, Ratio) else Fraction(number) for number in row]
            for row in table]


def of_ratios(table):
    return [[Ratio(Fraction(number).numerator, Fraction(number).denominator) for number in row] for row in table]


def by_places(table):
    """The determinant, straight as it is told by the places of the first row."""
    if not table:
        return Fraction(1)
    return sum((-1) ** place * number * by_places([row[:place] + row[place + 1:] for row in table[1:]])
               for place, number in enumerate(table[0]))


def multiplied(table, other):
    places = range(len(table))
    return [[sum(table[i][k] * other[k][j] for k in places) for j in places] for i in places]


def turned(table):
    return [list(column) for column in zip(*table)]


def check_told(test, table, wanted):
    """It is a told table, a list of lists of Ratios, with the wanted Fractions."""
    test.assertIs(type(table), list)
    for row in table:
        test.assertIs(type(row), list)
        for number in row:
            test.assertIs(type(number), Ratio)
    test.assertEqual(of_fractions(table), wanted)


def solved_plainly(rows, goals):
    """The one solution of rows of Fractions with goals, a list; None without one. There are not two."""
    lines, heads = [[*row, goal] for row, goal in zip(rows, goals)], []
    for place in range(len(rows[0]) + 1 if rows else 0):
        found = [line for line in lines[len(heads):] if line[place] != 0]
        if found:
            at = lines.index(found[0], len(heads))
            lines[len(heads)], lines[at] = lines[at], lines[len(heads)]
            lead = [number / found[0][place] for number in found[0]]
            lines = [lead if k == len(heads) else [a - line[place] * b for a, b in zip(line, lead)] for k, line in enumerate(lines)]
            heads.append(place)
    wide = len(rows[0]) if rows else 0
    if wide in heads:
        return None
    assert heads == list(range(wide))
    return [line[wide] for line in lines[:wide]]
