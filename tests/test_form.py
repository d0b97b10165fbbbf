"""Where the interface is defined, and the sizes and characters that ../shared/LANGUAGE.md asks for."""

import ast
import importlib
import pathlib
import unittest

FOLDER = pathlib.Path(__file__).resolve().parent.parent / "lumpplans"

INTERFACE = {
    "errors": (
        "LumpError Alike TooGreat TooMany NothingDone BadShape BadTable BadPlan NoCut Unlike BadPlace "
        "BadText BadAct NameMissing UnknownName"),
    "words": "is_word is_number",
    "shapes": "is_shape check_shape size_of shape_height part_at paths_of comb",
    "tables": "is_table check_table table_size entry",
    "plans": "Plan",
    "lexemes": "lexemes",
    "plantexts": "shape_text table_text plan_text read_shape read_table read_plan",
    "gluing": "stretches glue glued is_shape_lump lump_part",
    "cuts": "is_cut cuts behind counter judge_counter",
    "primes": "primes is_prime_table",
    "pressing": "shape row_behind",
    "lumps": "all_lumps",
}


class InterfaceTest(unittest.TestCase):
    def test_names_are_defined_in_their_files(self):
        for name, words in INTERFACE.items():
            module = importlib.import_module("lumpplans." + name)
            for word in words.split():
                self.assertEqual(getattr(module, word).__module__, module.__name__, word)

    def test_methods_stand_in_their_class(self):
        from lumpplans.plans import Plan
        for name in ("__init__", "__eq__", "tables", "end", "stage"):
            self.assertIn(name, vars(Plan))


class FormTest(unittest.TestCase):
    def files(self):
        return sorted(path for path in FOLDER.iterdir() if path.name != "__pycache__")

    def test_folder_has_python_files_only(self):
        for path in self.files():
            self.assertTrue(path.is_file() and path.suffix == ".py", path)

    def test_sizes_and_characters(self):
        for path in self.files():
            text = path.read_text(encoding="utf-8")
            self.assertTrue(all(sign == "\n" or " " <= sign <= "~" for sign in text), path)
            lines = text.splitlines()
            self.assertLessEqual(len(lines), 399, path)
            self.assertLessEqual(max(map(len, lines)), 120, path)
            for node in ast.walk(ast.parse(text)):
                if isinstance(node, ast.FunctionDef):
                    self.assertLessEqual(node.end_lineno - node.lineno + 1, 40, node.name)

    def test_imports_are_of_the_package(self):
        for path in self.files():
            for node in ast.walk(ast.parse(path.read_text(encoding="utf-8"))):
                self.assertNotIsInstance(node, ast.Import, path)
                if isinstance(node, ast.ImportFrom):
                    self.assertTrue(node.module.startswith("lumpplans."), path)

    def test_no_name_hides_an_import(self):
        for path in self.files():
            tree = ast.parse(path.read_text(encoding="utf-8"))
            imported = {
                alias.name for node in tree.body if isinstance(node, ast.ImportFrom) for alias in node.names}
            for node in ast.walk(tree):
                if isinstance(node, ast.arg):
                    self.assertNotIn(node.arg, imported, path)
                if isinstance(node, ast.Name) and isinstance(node.ctx, ast.Store):
                    self.assertNotIn(node.id, imported, path)


if __name__ == "__main__":
    unittest.main()
