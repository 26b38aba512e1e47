"""Sizes and characters of the package's files."""

import ast
import os
import unittest

PACKAGE = os.path.join(os.path.dirname(os.path.dirname(os.path.abspath(__file__))), "sungbyturns")


def texts():
    for folder, folders, names in os.walk(PACKAGE):
        folders[:] = [name for name in folders if name != "__pycache__"]
        for name in sorted(names):
            with open(os.path.join(folder, name), encoding="utf-8") as file:
                yield name, file.read()


class FormTest(unittest.TestCase):
    def test_files(self):
        for name, text in texts():
            with self.subTest(file=name):
                self.assertTrue(name.endswith(".py"))
                self.assertLessEqual(set(text) - {"\n"}, {chr(code) for code in range(32, 127)})
                self.assertLessEqual(len(text.splitlines()), 399)
                self.assertLessEqual(max(map(len, text.splitlines()), default=0), 120)

    def test_functions(self):
        for name, text in texts():
            for node in ast.walk(ast.parse(text)):
                if isinstance(node, ast.FunctionDef):
                    with self.subTest(file=name, function=node.name):
                        self.assertLessEqual(node.end_lineno - node.lineno + 1, 40)


if __name__ == "__main__":
    unittest.main()
