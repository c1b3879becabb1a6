"""Names, commands by their words alone, and deeds."""

import random
import unittest

from tests.kinds import ALL_KINDS, Stubborn, check_fresh
from toldpushes.commands import is_command, is_deed, is_name

DEEDS = ["plan p 3 0:1;1:2 0:2", "plan p 0 none none", "table t 1,1/2;1/2,2", "table t none", "table t 5", "pair t 0,1;0,0 1,0;0,1", "pair a none 1",
         "lot l 0,2", "lot l -", "lot l 5", "more q p 0:1 none", "less q p none 0:1;1:2", "rename q p 2,0,1", "rename q p -", "cut q p l",
         "beside q p r",
         "tableof t p a", "back a p t", "moved b p q a", "put p 0:1 none", "take p none 0:1", "drop p", "forget k",
         "claim k plain p", "claim k barred p", "claim k fits p t", "claim k misfits p t", "claim k joined p 0 2", "claim k nought p 2 0",
         "claim k enough p 0:1;1:2", "claim k lacks p none", "claim k few p 1", "claim k needs p 7"]
OTHERS = ["undo", "redo", "state k", "states", "claimed k", "names", "show p", "order p", "bars p", "head p l", "greatest p 2", "joined p 0 2",
          "full p",
          "telling p a", "apart p a b", "fewest p", "same p q"]
COMMANDS = DEEDS + OTHERS
# Words that may stand in the place of others.
WORDS = {word for command in COMMANDS for word in command.split(" ")}


class Names(unittest.TestCase):

    def test_names(self):
        for value in ("a", "z", "p", "a0", "z9", "abcdefgh", "a1234567", "none", "plan", "undo", "abcdefg9", "k", "m0m0m0"):
            self.assertIs(is_name(value), True, value)
            self.assertIs(is_name(value=value), True)

    def test_no_names(self):
        for value in ("", "0", "0a", "9", "A", "Ab", "aB", "abcdefghi", "a" * 9, "a b", " a", "a ", "a-b", "a_b", "_a", "a\n", "\n", "a,b", "a:1",
                      "-", "a.",
                      "abcdefg ", "123", "a" * 200, ["a"], ("a",), b"a", "a;", "a/b", "`a", "{a", "@a", "[a"):
            self.assertIs(is_name(value), False, value)
        for value in ALL_KINDS:
            self.assertIs(is_name(value), isinstance(value, str) and value == "a")


class Commands(unittest.TestCase):

    def check(self, command, wanted):
        self.assertIs(is_command(command), wanted, command)
        if not wanted:
            self.assertIs(is_deed(command), False, command)

    def test_each_command(self):
        for command in COMMANDS:
            self.assertIs(is_command(command), True, command)
            self.assertIs(is_command(value=command), True)
            self.assertIs(is_deed(command), command in DEEDS, command)
            self.assertIs(is_deed(value=command), command in DEEDS)

    def test_values_of_all_kinds(self):
        for value in ALL_KINDS + [["undo"], ("undo",), b"undo", {"undo": 1}, ["plan", "p"], Stubborn(), "Undo", "UNDO"]:
            self.assertIs(is_command(value), False)
            self.assertIs(is_deed(value), False)

    def test_words_left_out_and_put_in(self):
        for command in COMMANDS:
            words = command.split(" ")
            for at in range(len(words)):
                self.check(" ".join(words[:at] + words[at + 1:]), False)
                self.check(" ".join(words[:at + 1] + words[at:]), False)
            self.check(command + " p", False)
            self.check("p " + command, False)

    def test_blanks(self):
        for command in COMMANDS:
            for other in (command + " ", " " + command, command.replace(" ", "  ", 1), command + "\n", command.replace(" ", "\n", 1),
                          command.replace(" ", "", 1),
                          "\n" + command, command[::-1], command.upper(), command + command, command + "\n" + command):
                if other != command:
                    self.check(other, False)

    def kinds_of(self, word):
        """The kinds of what a word can be behind the word of a command."""
        found = {"name"} if is_name(word) else set()
        found |= {"joins"} if word == "none" or ":" in word else set()
        found |= {"rows"} if word == "none" or ("," in word or ";" in word) and ":" not in word or word.isdigit() else set()
        found |= {"counts"} if word == "-" or "," in word and "/" not in word and ";" not in word and ":" not in word or word.isdigit() else set()
        return found | ({"count"} if word.isdigit() else set())

    def test_words_exchanged(self):
        # What each part of each of the commands above wants.
        wants = {"plan": "name count joins joins", "table": "name rows", "pair": "name rows rows", "lot": "name counts",
                 "more": "name name joins joins",
                 "less": "name name joins joins", "rename": "name name counts", "put": "name joins joins", "take": "name joins joins",
                 "greatest": "name count", "joined": "name count count"}
        claims = {"joined": "name count count", "nought": "name count count", "enough": "name joins", "lacks": "name joins", "few": "name count",
                  "needs": "name count"}
        for command in COMMANDS:
            first, *rest = words = command.split(" ")
            kinds = wants.get(first, " ".join(["name"] * len(rest))).split()
            if first == "claim":
                kinds = ["name", "word"] + claims.get(rest[1], " ".join(["name"] * (len(rest) - 2))).split()
            for at, kind in enumerate(kinds):
                if kind != "word":
                    for word in sorted(WORDS):
                        self.check(" ".join(words[:at + 1] + [word] + words[at + 2:]), kind in self.kinds_of(word))

    def test_words_of_claims(self):
        for word in ("plain", "barred"):
            for other, wanted in ((f"claim k {word} p", True), (f"claim k {word} p q", False), (f"claim k {word}", False), (f"claim {word} p", False),
                                  (f"claim k {word} P", False), (f"claim 1 {word} p", False), (f"{word} p", False), (f"claim k {word} {word}", True),
                                  (f"claim {word} {word} {word}", True)):
                self.check(other, wanted)
        for other in ("claim", "claim k", "claim k true p", "claim k plan p", "claim k Plain p", "claim k fits p", "claim k fits p s t",
                      "claim k joined p 0",
                      "claim k joined p q 0", "claim k enough p", "claim k enough p 0", "claim k few p", "claim k few p none", "claim k few p q"):
            self.check(other, False)
        # Whether it is a claim is not told by its words.
        for other in ("claim k few p 8", "claim k joined p 7 99", "claim k enough p 9:9", "claim k fits p p"):
            self.check(other, True)

    def test_counts(self):
        for word, wanted in (("0", True), ("9", True), ("10", True), ("99", True), ("100", False), ("000", False), ("00", False), ("01", False),
                             ("-1", False),
                             ("+1", False), ("", False), ("1/2", False), ("2/1", False), ("x", False), ("1.0", False), ("-", False),
                             ("none", False), ("-0", False)):
            self.check(f"plan p {word} none none", wanted)
            self.check(f"greatest p {word}", wanted)
            self.check(f"joined p 0 {word}", wanted)
            self.check(f"claim k few p {word}", wanted)
            self.check(f"claim k joined p {word} 0", wanted)
            self.check(f"put p {word}:0 0:1", wanted)
            self.check(f"put p 0:1 0:{word}", wanted)
            self.check(f"lot l 0,{word}", wanted)
            self.check(f"lot l {word}", wanted or word == "-")

    def test_lists_of_counts(self):
        for word, wanted in (("-", True), ("0,1,2,3,4,5", True), ("5,5,5,5,5,5", True), ("0,1,2,3,4,5,6", False), ("0,", False), (",0", False),
                             ("0,,1", False),
                             ("0;1", False), ("--", False), ("-,0", False), ("0,-", False), ("none", False), ("0:1", False), ("99,98", True),
                             ("0,01", False)):
            self.check(f"lot l {word}", wanted)
            self.check(f"rename q p {word}", wanted)

    def test_joins(self):
        for word, wanted in (("none", True), ("0:1", True), ("1:1", True), ("99:98", True), (";".join(["0:1"] * 30), True),
                             (";".join(["0:1"] * 31), False),
                             ("0:1;", False), (";0:1", False), ("0:1;;1:2", False), ("0:1,1:2", False), ("0:1:2", False), ("0:", False),
                             (":1", False), (":", False),
                             ("0", False), ("none;0:1", False), ("None", False), ("-", False), ("0:x", False), ("0:1;none", False), ("0: 1", False)):
            for command in ("plan p 3 {} none", "plan p 3 none {}", "more q p {} 0:1", "less q p 0:1 {}", "put p {} none", "take p none {}",
                            "claim k enough p {}", "claim k lacks p {}"):
                self.check(command.format(word), wanted)

    def test_rows(self):
        numbers = [("0", True), ("-1", True), ("1/2", True), ("-1/2", True), ("999999", True), ("-999999", True), ("1000000", False),
                   ("-1000000", False),
                   ("1/999999", True), ("1/1000000", False), ("-999999/999998", True), ("1000001/2", False), ("2/4", False), ("1/1", False),
                   ("0/2", False),
                   ("-0", False), ("+1", False), ("01", False), ("1/02", False), ("1/0", False), ("", False), ("x", False), ("1.5", False),
                   ("1/2/3", False),
                   ("1/-2", False), ("--1", False), ("9" * 300, False), ("1/" + "9" * 300, False), ("-", False), ("0000000", False)]
        for word, wanted in numbers + [("none", True), ("1,2;3,4", True), ("1;2,3", True), ("1,2;3", True), ("1,2,3,4,5,6", True),
                                       ("1,2,3,4,5,6,7", False),
                                       (";".join("123456"), True), (";".join("1234567"), False), (";".join([",".join(["1"] * 6)] * 6), True),
                                       (";".join([",".join(["1"] * 6)] * 5 + [",".join(["1"] * 7)]), False), ("1,2;", False), (";1", False),
                                       ("1,;2,3", False),
                                       (",1", False), ("1;;2", False), ("1:2", False), ("none;1", False), ("1,none", False), ("1,2;2/4,1", False),
                                       ("None", False)]:
            for command in ("table t {}", "pair a {} none", "pair a 1 {}"):
                self.check(command.format(word), wanted)

    def test_names_in_commands(self):
        names = [("abcdefgh", True), ("a1", True), ("none", True), ("abcdefghi", False), ("A", False), ("aB", False), ("1a", False), ("0", False),
                 ("", False),
                 ("a-", False), ("-", False), ("a_b", False), ("undo", True)]
        for word, wanted in names:
            for command in ("plan {} 3 none none", "more q {} none none", "beside q p {}", "moved b p q {}", "drop {}", "forget {}",
                            "claim {} plain p",
                            "claim k plain {}", "claim k fits p {}", "state {}", "claimed {}", "show {}", "apart p a {}", "same {} q", "head p {}",
                            "cut q {} l"):
                self.check(command.format(word), wanted)

    def test_words_of_no_command(self):
        chance = random.Random(171)
        firsts = {command.split(" ")[0] for command in COMMANDS}
        for word in WORDS - firsts:
            for command in COMMANDS:
                self.check(" ".join([word] + command.split(" ")[1:]), False)
            self.check(word, False)
        for command in COMMANDS:
            at = chance.randrange(len(command.split(" ")[0]))
            self.check(command[:at] + command[at + 1:], False)
            self.check(command[:at] + "x" + command[at:], False)
        for value in ("", " ", "\n", "  ", "undo redo", "undo p", "states k", "names p"):
            self.check(value, False)

    def test_fresh(self):
        for call in (is_name, is_command, is_deed):
            check_fresh(self, call, "lot l 0,1")


if __name__ == "__main__":
    unittest.main()
