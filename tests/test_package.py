"""Tests of the package's own files: point [1], no clock, no chance and no files."""

import ast
import pathlib
import unittest

import stretchtree

PACKAGE = pathlib.Path(stretchtree.__file__).parent
DOORS = ("open", "input", "print", "eval", "exec", "compile", "__import__")


class PackageTest(unittest.TestCase):
    def nodes(self):
        files = sorted(PACKAGE.rglob("*.py"))
        self.assertTrue(files)
        for file in files:
            for node in ast.walk(ast.parse(file.read_text(encoding="utf-8"))):
                yield file.name, node

    def test_only_the_packages_own_files_are_imported(self):
        for file, node in self.nodes():
            self.assertNotIsInstance(node, ast.Import, file)
            if isinstance(node, ast.ImportFrom):
                self.assertEqual(node.level, 0, file)
                self.assertEqual(node.module.split(".")[0], "stretchtree", file)

    def test_no_door_to_the_outside_is_named(self):
        for file, node in self.nodes():
            if isinstance(node, ast.Name):
                self.assertNotIn(node.id, DOORS, file)


if __name__ == "__main__":
    unittest.main()
