"""The interface: its names stand where it lists them, and arguments may be passed by the names shown."""

import importlib
import inspect
import unittest

# Each module with its functions and classes; behind a class, its methods.
FUNCTIONS = {
    "databases": ["is_database(schema, value)", "is_valid(schema, database)", "violations(schema, database)"],
    "results": ["matches(report, database)", "joined(report, database)", "counted(report, database)",
                "total(report, database)", "plain_sum(report, database)", "pairs(report, database)"],
    "classes": ["same_class(report, column, other)", "is_empty(report)", "same_steps(report)"],
    "answers": ["counts_once(report)", "adds_up(report)", "loses_none(report)", "is_once_answer(report, value)",
                "is_sum_answer(report, value)", "is_loss_answer(report, value)", "canonical_database(report)",
                "row_at(report, database, row, path)"],
    "dropping": ["without(report, alias)", "can_drop(report, alias)", "is_drop_answer(report, alias, value)",
                 "smaller(report)"],
    "determined": ["determined(report, columns)", "determines(report, columns, column)",
                   "is_determined_answer(report, columns, column, value)"],
    "lists": ["least_lists(report, column=None)", "greatest_lists(report, column=None)"],
    "example": ["one_example(report)", "is_example(report, value)"],
    "within": ["within(report, other)", "is_within_answer(report, other, value)", "same_pairs(report, other)"],
    "often": ["equally_often(report, other)", "is_often_answer(report, other, value)"],
}
CLASSES = {
    "schemas": {"Schema": ["parse(text)", "table(self, name)"], "Table": []},
    "reports": {"Report": ["parse(schema, text)"]},
    "live": {"Live": ["__init__(self, schema)", "rows(self, table)", "begin(self)", "apply(self, inserts, deletes)",
                      "add_report(self, report, *, once=False, sums=False, none_lost=False)", "result(self, number)",
                      "watch(self, number)", "changes(self, number)"],
             "Transaction": ["insert(self, table, row)", "delete(self, table, row)", "commit(self)",
                             "rollback(self)", "__enter__(self)"]},
    "ledgers": {"Ledger": ["__init__(self, live, report)", "standing(self)", "told(self)", "mark(self)",
                           "between(self, first, second)"]},
    "guards": {"Guarded": ["__init__(self, schema)", "__len__(self)", "rows(self, table)",
                           "apply(self, inserts, deletes)", "guard_determined(self, report, columns, column)",
                           "guard_within(self, report, other)", "guard_often(self, report, other)"]},
}


def shown(name, found):
    """Return a function as the interface writes it."""
    return f"{name}{inspect.signature(found)}"


class NamesTest(unittest.TestCase):
    def test_functions(self):
        for module, expected in FUNCTIONS.items():
            found = importlib.import_module(f"countonce.{module}")
            for text in expected:
                function = getattr(found, text.split("(")[0])
                self.assertEqual(shown(function.__name__, function), text)
                self.assertEqual(function.__module__, f"countonce.{module}")

    def test_classes(self):
        for module, classes in CLASSES.items():
            found = importlib.import_module(f"countonce.{module}")
            for name, expected in classes.items():
                self.assertEqual(getattr(found, name).__module__, f"countonce.{module}")
                for text in expected:
                    method = text.split("(")[0]
                    self.assertIn(method, vars(getattr(found, name)))
                    self.assertEqual(shown(method, getattr(getattr(found, name), method)), text)
        self.assertIs(type(vars(importlib.import_module("countonce.live").Live)["transaction"]), property)


if __name__ == "__main__":
    unittest.main()
