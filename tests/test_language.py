"""The sizes and characters that LANGUAGE.md (L1, L2, L10, L14) lets the files of the package have."""

import ast
import os
import unittest

import flushtold

FOLDER = os.path.dirname(flushtold.__file__)
NAMES = sorted(name for name in os.listdir(FOLDER) if name != '__pycache__')


def text_of(name):
    """Return the text of a file of the package."""
    with open(os.path.join(FOLDER, name), encoding='utf-8', newline='') as file:
        return file.read()


class LanguageTests(unittest.TestCase):

    def test_the_folder_holds_nothing_else(self):
        for name in NAMES:
            self.assertTrue(name.endswith('.py') and name == name.lower(), name)

    def test_lines_and_characters(self):
        for name in NAMES:
            text = text_of(name)
            self.assertTrue(all(' ' <= sign <= '~' or sign == '\n' for sign in text), name)
            lines = text.split('\n')
            self.assertLessEqual(len(lines), 399, name)
            self.assertLessEqual(max(len(line) for line in lines), 120, name)

    def test_functions_are_small(self):
        for name in NAMES:
            for node in ast.walk(ast.parse(text_of(name))):
                if isinstance(node, ast.FunctionDef):
                    self.assertLessEqual(node.end_lineno - node.lineno + 1, 40, (name, node.name))

    def test_imports_are_from_the_package_or_of_the_few_that_are_let(self):
        for name in NAMES:
            for node in ast.walk(ast.parse(text_of(name))):
                self.assertFalse(isinstance(node, ast.Import) and name != '__main__.py', name)
                if isinstance(node, ast.ImportFrom):
                    let = ('flushtold', 'heapq', 'math', 'itertools', 'collections', '__future__')
                    self.assertIn(node.module.split('.')[0], let)
                    self.assertEqual(node.level, 0)


if __name__ == '__main__':
    unittest.main()
