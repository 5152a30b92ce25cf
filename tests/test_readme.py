import ast
import os
import unittest

README = os.path.join(os.path.dirname(os.path.dirname(os.path.abspath(__file__))), "README.md")


class ReadmeTest(unittest.TestCase):
    def test_values_that_the_example_tells(self):
        with open(README, encoding="utf-8") as file:
            source = file.read().split("```python\n")[1].split("```")[0]
        rows, names, checked = source.split("\n"), {}, 0
        for statement in ast.parse(source).body:
            code = ast.unparse(statement)
            told = rows[statement.end_lineno - 1].partition("  # ")[2]
            if isinstance(statement, ast.Expr) and told and told[0] in "([{\"TF" and "a valid database" not in told:
                self.assertEqual(eval(code, names), ast.literal_eval(told.partition(": the")[0]), code)
                checked += 1
            else:
                exec(code, names)
        self.assertGreater(checked, 10)


if __name__ == "__main__":
    unittest.main()
