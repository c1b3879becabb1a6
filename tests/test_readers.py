"""Written forms read again, and the wrong line of all other strings."""

import random
import re
import unittest
from math import gcd

from tests.drawn import all_arrows, all_ties, drawings, has_ring
from tests.kinds import ALL_KINDS, check_fresh, same
from tests.reckoned import check_told, of_fractions
from tests.test_full import all_plans
from tests.told import lots_of, some_symmetric, some_tellings
from toldpushes.errors import InvalidText
from toldpushes.plans import Plan
from toldpushes.ratios import Ratio
from toldpushes.readers import read
from toldpushes.texts import written


def is_number(word):
    """Whether a word is the written form of a NUMBER."""
    found = re.fullmatch(r"(-?)(0|[1-9][0-9]*)(/(0|[1-9][0-9]*))?", word)
    if not found or word == "-0":
        return False
    return not found[3] or (int(found[4]) > 1 and gcd(int(found[2]), int(found[4])) == 1)


def numbers_in(line, word, many):
    """Whether a line is the word with so many NUMBERS behind it."""
    first, *rest = line.split(" ")
    return first == word and len(rest) in many and all(is_number(part) for part in rest)


def things_in(line, word, most=6):
    """The things behind the word in a line, a tuple; None if the line is none with the word and at most so many things."""
    first, *rest = line.split(" ")
    if first != word or len(rest) > most or not all(re.fullmatch("[0-5]", part) for part in rest):
        return None
    return tuple(int(part) for part in rest)


def pair_in(line, word, size):
    pair = things_in(line, word)
    if pair is None or len(pair) != 2 or pair[0] == pair[1] or max(pair) >= size:
        return None
    return pair


def may_follow_in_plan(lines, line):
    """Whether the line may stand behind these lines of a plan."""
    size = int(lines[0].split(" ")[1])
    arrows = [pair_in(old, "arrow", size) for old in lines[1:] if old.startswith("arrow")]
    ties = [pair_in(old, "tie", size) for old in lines[1:] if old.startswith("tie")]
    arrow, tie = pair_in(line, "arrow", size), pair_in(line, "tie", size)
    if arrow:
        return not ties and all(old < arrow for old in arrows) and not has_ring(size, arrows + [arrow])
    return bool(tie) and tie[0] < tie[1] and all(old < tie for old in ties)


def may_follow(lines, line):
    """Whether some written form goes on with this line behind these lines, which are those with which one begins."""
    if not lines:
        if re.fullmatch("(table|plan|telling) [0-6]|arrows|road", line):
            return True
        things = things_in(line, "lot")
        return numbers_in(line, "numbers", range(41)) or (things is not None and list(things) == sorted(set(things)))
    first, *rest = lines[0].split(" ")
    if first in ("numbers", "lot"):
        return False
    if first == "arrows":
        pair = pair_in(line, "arrow", 6)
        return pair is not None and all(pair_in(old, "arrow", 6) < pair for old in lines[1:])
    if first == "plan":
        return may_follow_in_plan(lines, line)
    if first == "road":
        return len(lines) < 3 and bool(things_in(line, ["up", "down"][len(lines) - 1]))
    size = int(rest[0])
    words = ["line"] * size if first == "table" else ["push"] * size + ["own"] * size
    return len(lines) <= len(words) and numbers_in(line, words[len(lines) - 1], [size])


def is_done(lines):
    """Whether lines with which a written form begins are one."""
    first, *rest = lines[0].split(" ")
    wanted = {"table": lambda: 1 + int(rest[0]), "telling": lambda: 1 + 2 * int(rest[0]), "road": lambda: 3}
    return first not in wanted or len(lines) == wanted[first]()


def wrong_line(text):
    """The wrong line of a string, by a look at one line behind the other; None of a written form."""
    lines = []
    for line in text.splitlines(keepends=True):
        if not line.endswith("\n") or not may_follow(lines, line[:-1]):
            return len(lines) + 1
        lines.append(line[:-1])
    return None if lines and is_done(lines) else len(lines) + 1


def some_values(seed):
    """Sorts with values of them."""
    chance = random.Random(seed)
    found = [("lot", lot) for lot in lots_of(6)] + [("plan", Plan(*drawing)) for drawing in drawings()]
    for many in (0, 1, 2, 3, 39, 40):
        found.append(("numbers", [chance.choice([0, 7, -12, Ratio(1, 2), Ratio(-35, 6), Ratio(4), 10 ** 20]) for _ in range(many)]))
    for many in (0, 1, 2, 6, 30):
        found.append(("arrows", chance.sample(all_arrows(6), many)))
    for _, telling in some_tellings(seed)[::4]:
        found += [("telling", telling), ("table", telling[1])]
    for size in range(7):
        found.append(("table", some_symmetric(size, chance)))
    for up, down in ((1, 1), (6, 6), (1, 6), (3, 2)):
        found.append(("road", ([chance.randrange(6) for _ in range(up)], [chance.randrange(6) for _ in range(down)])))
    return found


TEXTS = [written(sort, value) for sort, value in some_values(151)]


class Read(unittest.TestCase):

    def check_numbers(self, numbers, wanted):
        self.assertIs(type(numbers), list)
        self.assertTrue(all(type(number) is Ratio for number in numbers))
        self.assertEqual(of_fractions([numbers]), of_fractions([wanted]))

    def check_pairs(self, pairs, wanted):
        self.assertEqual([type(pairs)] + [type(pair) for pair in pairs], [list] + [tuple] * len(pairs))
        self.assertEqual(pairs, wanted)

    def check_read(self, sort, value):
        text = written(sort, value)
        self.assertIsNone(wrong_line(text))
        found = read(text)
        self.assertEqual([type(found), len(found), found[0]], [tuple, 2, sort])
        told = found[1]
        if sort == "numbers":
            self.check_numbers(told, value)
        elif sort == "table":
            check_told(self, told, of_fractions(value))
        elif sort == "telling":
            self.assertEqual([type(told), len(told)], [tuple, 2])
            for table, wanted in zip(told, value):
                check_told(self, table, of_fractions(wanted))
        elif sort == "arrows":
            self.check_pairs(told, sorted(value))
        elif sort == "road":
            self.assertTrue(same(told, (list(value[0]), list(value[1]))))
        else:
            self.assertTrue(same(told, value) if sort == "lot" else told == value)
        self.assertEqual(written(*found), text)
        self.assertTrue(same(read(text=text)[0], sort))

    def test_what_written_tells(self):
        for sort, value in some_values(152):
            self.check_read(sort, value)
        for size in range(4):
            for plan in all_plans(size):
                self.check_read("plan", plan)

    def test_numbers(self):
        for word in ("0", "1", "-1", "10", "-10", "1/2", "-1/2", "7/10", "100/3", "-999999/1000000", "9" * 300, "1/" + "9" * 300):
            self.assertEqual(written(*read(f"numbers {word}\n")), f"numbers {word}\n")

    def test_no_strings(self):
        for value in ALL_KINDS:
            if not isinstance(value, str):
                self.check_wrong(value, 0)
        for value in ("lot 0\n".encode(), ["lot 0\n"], ("lot", [0]), Plan(1, [], []), [[0]]):
            self.check_wrong(value, 0)

    def check_wrong(self, text, line):
        with self.assertRaises(InvalidText) as caught:
            read(text)
        self.assertIs(type(caught.exception), InvalidText)
        self.assertTrue(same(caught.exception.line, line), (text, caught.exception.line, line))

    def check_any(self, text):
        """It is read, or the wrong line is told; whether it is wrong."""
        line = wrong_line(text)
        if line is None:
            self.assertEqual(written(*read(text)), text)
            return False
        self.check_wrong(text, line)
        return True

    def test_single_wrong_lines(self):
        for text, line in (
                ("", 1), ("\n", 1), (" ", 1), ("lot", 1), ("lot 0", 1), ("lot 0 \n", 1), (" lot 0\n", 1), ("lot  0\n", 1), ("lot 0\n\n", 2),
                ("lot 0\n\n\n", 2), ("\nlot 0\n", 1), ("lot 1 0\n", 1), ("lot 0 0\n", 1), ("lot 6\n", 1), ("lot 01\n", 1), ("lot -1\n", 1),
                ("lots 0\n", 1), ("Lot 0\n", 1), ("lot 0\nlot 0\n", 2), ("lot 0 1 2 3 4 5 6\n", 1), ("lot 0,1\n", 1), ("lot +1\n", 1),
                ("lot 1/2\n", 1),
                ("lot 2/1\n", 1), ("numbers \n", 1), ("numbers 1 \n", 1), ("numbers 1  2\n", 1), ("numbers -0\n", 1), ("numbers +1\n", 1),
                ("numbers 01\n", 1), ("numbers -01\n", 1), ("numbers 00\n", 1), ("numbers 2/4\n", 1), ("numbers 1/1\n", 1), ("numbers 1/0\n", 1),
                ("numbers 0/2\n", 1), ("numbers 0/1\n", 1), ("numbers -0/3\n", 1), ("numbers 1/-2\n", 1), ("numbers 1/02\n", 1),
                ("numbers 01/2\n", 1),
                ("numbers 1/\n", 1), ("numbers /2\n", 1), ("numbers /\n", 1), ("numbers -\n", 1), ("numbers --1\n", 1), ("numbers 1/2/3\n", 1),
                ("numbers 1.5\n", 1), ("numbers 1_0\n", 1), ("numbers 1e3\n", 1), ("numbers x\n", 1), ("numbers" + " 1" * 41 + "\n", 1),
                ("numbers 1\nnumbers 2\n", 2), ("numbers 1", 1), ("numbers -1/-2\n", 1), ("numbers 4/2\n", 1),
                ("table\n", 1), ("table 7\n", 1), ("table 02\n", 1), ("table -1\n", 1), ("table 1 1\n", 1), ("table 2", 1), ("table 2\n", 2),
                ("table 2\nline 1 2\n", 3), ("table 2\nline 1 2\nline 3 4", 3), ("table 2\nline 1 2\nline 3 4\nline 5 6\n", 4),
                ("table 2\nline 1\nline 3 4\n", 2), ("table 2\nline 1 2 3\nline 3 4\n", 2), ("table 2\nline 1 2\nline 3 04\n", 3),
                ("table 2\nlines 1 2\n", 2), ("table 2\npush 1 2\n", 2), ("table 2\n1 2\n", 2), ("table 0\nline\n", 2), ("table 1\nline\n", 2),
                ("table 1\nline 1\n\n", 3), ("table 0\n\n", 2), ("table 0", 1), ("table 1\n\nline 1\n", 2),
                ("arrows 0 1\n", 1), ("arrows\narrow 0 1\narrow 0 1\n", 3), ("arrows\narrow 1 0\narrow 0 1\n", 3), ("arrows\narrow 0 0\n", 2),
                ("arrows\narrow 0 6\n", 2), ("arrows\narrow 0\n", 2), ("arrows\narrow 0 1 2\n", 2), ("arrows\ntie 0 1\n", 2),
                ("arrows\narrow 0 1", 2),
                ("arrows\narrow 0 01\n", 2), ("arrows ", 1), ("arrows \n", 1), ("arrows\narrows\n", 2), ("arrows\narrow 0 1\n\narrow 0 2\n", 3),
                ("plan\n", 1), ("plan 7\n", 1), ("plan 3 3\n", 1), ("plan 3\narrow 0 3\n", 2), ("plan 3\narrow 1 0\narrow 0 1\n", 3),
                ("plan 3\narrow 0 1\narrow 1 0\n", 3), ("plan 3\narrow 0 1\narrow 1 2\narrow 2 0\n", 4), ("plan 3\narrow 0 1\narrow 0 1\n", 3),
                ("plan 3\ntie 0 1\narrow 0 1\n", 3), ("plan 3\ntie 1 0\n", 2), ("plan 3\ntie 0 2\ntie 0 1\n", 3), ("plan 3\ntie 0 1\ntie 0 1\n", 3),
                ("plan 3\ntie 0 3\n", 2), ("plan 3\ntie 1 1\n", 2), ("plan 0\narrow 0 1\n", 2), ("plan 1\ntie 0 1\n", 2), ("plan 3\narrow 0 1 \n", 2),
                ("plan 2\ntie 0 1", 2), ("plan 2\n\n", 2), ("plan 2\nplan 2\n", 2), ("plan 3\narrow 0 1\nknot 0 1\n", 3), ("plan 3\narrow  0 1\n", 2),
                ("telling\n", 1), ("telling 7\n", 1), ("telling 2\n", 2), ("telling 2\npush 0 0\n", 3), ("telling 2\npush 0 0\npush 0 0\n", 4),
                ("telling 2\npush 0 0\nown 0 0\n", 3), ("telling 1\nown 1\npush 0\n", 2), ("telling 1\npush 0\nown 1\nown 1\n", 4),
                ("telling 1\npush 0\npush 1\n", 3), ("telling 1\npush 0\nown 1", 3), ("telling 0\n\n", 2), ("telling 0\npush\n", 2),
                ("road\n", 2), ("road 0\n", 1), ("road\nup 0\n", 3), ("road\nup\ndown 0\n", 2), ("road\nup 0\ndown\n", 3),
                ("road\ndown 0\nup 0\n", 2),
                ("road\nup 6\ndown 0\n", 2), ("road\nup 0 1 2 3 4 5 0\ndown 0\n", 2), ("road\nup 0\ndown 0 1 2 3 4 5 0\n", 3),
                ("road\nup 0\ndown 0", 3),
                ("road\nup 0\ndown 0\ndown 0\n", 4), ("road\nup 0\nup 0\n", 3), ("road", 1), ("road\nup 0", 2), ("road\n\n", 2),
                ("road\nup\ndown 9\n", 2), ("road\nup 6\nup 0\n", 2), ("road\nup 0 1 2 3 4 5 0\n", 2)):
            self.assertEqual(wrong_line(text), line, text)
            self.check_wrong(text, line)

    def test_forms_that_lack_nothing(self):
        for text in ("arrows\n", "plan 3\n", "table 0\n", "telling 0\n", "plan 0\n", "numbers\n", "lot\n"):
            self.assertEqual(written(*read(text)), text)

    def test_left_out_changed_put_in(self):
        chance, wrong = random.Random(153), 0
        words = ["0", "1", "5", "6", "-1", "-0", "1/2", "2/4", "", "arrow", "tie", "line", "push", "own", "up", "down", "plan", "lot", "00", "+1"]
        for text in TEXTS[::2]:
            lines = text.splitlines(keepends=True)
            for _ in range(6):
                other, at = list(lines), chance.randrange(len(lines))
                parts = other[at][:-1].split(" ")
                place = chance.randrange(len(parts))
                change = chance.randrange(8)
                if change == 0:
                    del other[at]
                elif change == 1:
                    other.insert(at, chance.choice(lines))
                elif change == 2:
                    other[at] = chance.choice(chance.choice(TEXTS).splitlines(keepends=True))
                elif change == 3:
                    other[at] = other[at][:-1] + chance.choice(["", " ", "\n\n", " \n", " 0\n"])
                else:
                    parts[place:place + chance.randrange(2)] = [chance.choice(words)] * chance.randrange(2)
                    other[at] = " ".join(parts) + "\n"
                wrong += self.check_any("".join(other))
        self.assertGreater(wrong, 200)

    def test_signs_left_out_changed_put_in(self):
        chance, wrong = random.Random(154), 0
        for text in TEXTS:
            for _ in range(4):
                at = chance.randrange(len(text))
                sign = chance.choice(" \n0123456789/-+arwtie.")
                wrong += self.check_any(text[:at] + chance.choice(["", sign, text[at] + sign]) + text[at + 1:])
        self.assertGreater(wrong, 200)

    def test_two_joined_and_parts(self):
        chance = random.Random(155)
        for text in TEXTS[::3]:
            self.check_any(text + chance.choice(TEXTS))
            self.assertTrue(self.check_any(text + text))
            lines = text.splitlines(keepends=True)
            for many in range(len(lines)):
                self.check_any("".join(lines[:many]))
                self.check_any("".join(lines[many:]))
                self.check_any("".join(lines[::-1][:many]))
            self.check_wrong(text[:-1], len(lines))

    def test_all_plans_of_three_things(self):
        # All beginnings of written forms of plans of three things, at most: the wrong line is the first that none goes on with.
        forms = [written("plan", plan).splitlines() for size in range(4) for plan in all_plans(size)]
        starts = {tuple(form[:many]) for form in forms for many in range(len(form) + 1)}
        chance, rows = random.Random(156), sorted({line for form in forms for line in form if " " in line and not line.startswith("plan")})
        for _ in range(400):
            lines = [f"plan {chance.choice([1, 2, 3, 3, 3])}"] + [chance.choice(rows) for _ in range(chance.randint(1, 4))]
            if chance.random() < 0.6:
                lines[1:] = sorted(lines[1:])
            many = max(many for many in range(len(lines) + 1) if tuple(lines[:many]) in starts)
            text = "\n".join(lines) + "\n"
            if many == len(lines):
                self.assertEqual(written(*read(text)), text)
            else:
                self.check_wrong(text, many + 1)

    def test_most_arrows_and_ties(self):
        self.check_read("plan", Plan(6, all_ties(6), all_ties(6)))
        self.check_read("plan", Plan(6, [(high, low) for low, high in all_ties(6)], []))
        self.check_read("arrows", all_arrows(6))

    def test_fresh(self):
        for text in TEXTS[::5]:
            check_fresh(self, read, text)


if __name__ == "__main__":
    unittest.main()
