"""Each name of the interface is defined in the file under which it is listed, with just its parameters."""

import ast
import importlib
import inspect
import os
import unittest

FOLDER = os.path.join(os.path.dirname(__file__), "..", "toldpushes")

LISTED = {
    "basics": ["is_integer(value)", "is_count(value)"],
    "ratios": ["is_number(value)", "Ratio(top, bottom=1)"],
    "solved": ["steps(rows)", "kernel(rows, wide)", "solution(rows, goals)", "is_solution(rows, goals, value)", "bar(rows, goals)",
               "is_bar(rows, goals, value)"],
    "tables": ["is_table(value)", "idle(size)", "times(table, other)", "less(table, other)", "about(table)", "undone(table)",
               "determinant(table)", "is_symmetric(table)", "pivots(table)", "is_above(table)"],
    "plans": ["Plan(size, arrows, ties)"],
    "ways": ["leads(plan, start, end)", "ahead(plan, thing)", "tie_parts(plan)", "with_more(plan, arrows, ties)",
             "without(plan, arrows, ties)", "renamed(plan, order)", "cut(plan, lot)", "beside(plan, other)"],
    "tellings": ["is_telling(plan, value)", "table_of(plan, telling)", "ones(plan)", "own_of(plan, pushes, table)",
                 "lefts(plan, pushes, table)", "scaled(plan, telling, numbers)", "cut_telling(plan, telling, lot)"],
    "roads": ["roads(plan, start, end)", "is_joined(plan, start, end)", "road_worth(plan, telling, road)",
              "table_by_roads(plan, telling)"],
    "lots": ["is_lot(plan, value)", "head(plan, lot)", "hangs(plan, lot)", "is_barred(plan, value)"],
    "bars": ["greatest_lot(plan, thing)", "barred_lots(plan)", "least_bars(plan)", "is_plain(plan)", "bar_of(plan)", "can_put(plan)"],
    "back": ["equations(plan, pushes, table, thing)", "told_back(plan, table)"],
    "fits": ["fits(plan, table)", "misfit(plan, table)", "is_misfit(plan, table, value)"],
    "twins": ["are_twins(plan, value)", "twins_of(plan, lot)", "twins(plan)", "apart(plan, telling, other)",
              "same_table(plan, telling, other)"],
    "full": ["is_full(plan)", "full_plans(size)", "full_back(plan, table)", "fillings(plan)"],
    "moved": ["moved(plan, other, telling)", "by_order(size, order, table)", "all_ties(size, table)"],
    "known": ["is_known(plan, value)", "barred_by(plan, known, lot)", "greatest_by(plan, known, thing)", "is_enough(plan, known)",
              "told_with(plan, known, numbers, table)", "twins_by(plan, known, lot)"],
    "few": ["fewest(plan)", "fewest_known(plan)", "all_fewest(plan)"],
    "texts": ["sorts()", "is_of_sort(sort, value)", "written(sort, value)"],
    "readers": ["read(text)"],
    "claims": ["words()", "is_claim(value)", "is_true(claim)", "contrary(claim)", "paper_of(claim)", "is_paper_of(claim, value)"],
    "commands": ["is_name(value)", "is_command(value)", "is_deed(value)"],
    "desk": ["Desk()", "Trial(desk)", "tried(desk, action)"],
}

METHODS = {"Ratio": "top bottom sign is_whole __add__ __radd__ __sub__ __rsub__ __mul__ __rmul__ __neg__ over size is_below is_at_most"
                    " __eq__ total __str__ __repr__".split(),
           "Plan": "width arrows ties order __eq__ __repr__".split(),
           "Desk": "names labels __len__ __getitem__ __contains__ claim_of do __call__ do_all attempt attach fits lines copy again".split(),
           "Trial": ["__enter__", "__exit__"]}
HOMES = {"Ratio": "ratios", "Plan": "plans", "Desk": "desk", "Trial": "desk"}

DESK = ["claim_of(self, label)", "do(self, command)", "__call__(self, command)", "do_all(self, *commands)", "attempt(self, *commands)",
        "attach(self, label, paper)", "fits(self, label)", "lines(self)", "copy(self)", "again(cls, lines)"]


class Interface(unittest.TestCase):

    def test_defined_where_listed(self):
        for name, listed in LISTED.items():
            with open(os.path.join(FOLDER, f"{name}.py"), encoding="ascii") as kept:
                tree = ast.parse(kept.read())
            defined = {row.name for row in tree.body if isinstance(row, (ast.FunctionDef, ast.ClassDef))}
            there = importlib.import_module(f"toldpushes.{name}")
            for text in listed:
                word = text.split("(")[0]
                self.assertIn(word, defined)
                self.assertEqual(word + str(inspect.signature(getattr(there, word))), text)

    def test_methods_stand_in_the_class_itself(self):
        for name, words in METHODS.items():
            there = importlib.import_module(f"toldpushes.{HOMES[name]}")
            for word in words:
                self.assertIn(word, vars(getattr(there, name)))

    def test_parameters_of_a_desk(self):
        methods = vars(importlib.import_module("toldpushes.desk").Desk)
        for text in DESK:
            word = text.split("(")[0]
            self.assertEqual(word + str(inspect.signature(getattr(methods[word], "__func__", methods[word]))), text)
        self.assertEqual([type(methods[word]) for word in ("names", "labels", "again")], [property, property, classmethod])


if __name__ == "__main__":
    unittest.main()
