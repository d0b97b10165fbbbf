"""Where the interface is defined, and the sizes and characters that ../shared/LANGUAGE.md asks for."""

import ast
import builtins
import importlib
import pathlib
import unittest

FOLDER = pathlib.Path(__file__).resolve().parent.parent / "lumpplans"

BUILTINS = (
    "len range enumerate zip min max sum abs sorted reversed int str bool list tuple dict set isinstance ord "
    "repr any all divmod ValueError LookupError").split()

METHODS = (
    "append count endswith extend find get index insert items join keys pop remove replace setdefault split "
    "startswith strip update values bit_length").split()

INTERFACE = {
    "errors": (
        "LumpError Alike TooGreat TooMany NothingDone BadShape BadTable BadPlan NoCut Unlike BadPlace "
        "BadText BadAct NameMissing UnknownName"),
    "words": "is_word is_number",
    "shapes": "is_shape check_shape size_of shape_height part_at paths_of comb",
    "tables": "is_table check_table table_size entry",
    "plans": "Plan",
    "lexemes": "lexemes",
    "plantexts": "shape_text table_text plan_text read_shape read_table read_plan",
    "gluing": "stretches glue glued is_shape_lump lump_part",
    "cuts": "is_cut cuts behind counter judge_counter",
    "primes": "primes is_prime_table",
    "pressing": "shape row_behind",
    "lumps": "all_lumps",
    "digits": "is_lump lump_at path_of least_lump depth crossing",
    "plainforms": "prime_list plain are_alike",
    "parting": "common_beginning least_parting parting judge_parting",
    "partings": "parting_table groups group_numbers nearest",
    "tablewords": "begins ends rest_behind rest_ahead power root greatest_beginning",
    "exchanges": "commute turns_into turning exchanges",
    "overlaps": "overlap joint borders periods",
    "shapecounts": "count_shapes shape_number shape_of next_shape",
    "tablecounts": "count_tables count_primes count_glued",
    "numbering": "table_number table_of next_table drawn_table tables_from prime_of prime_number",
    "heights": "height last_depths deepest least_height is_least_high height_paper judge_height_paper",
    "sizes": "lump_sizes count_of_size",
    "lowcounts": "count_high count_low count_low_tables high_shape high_number low_table",
    "lasting": "is_lasting lasting count_lasting breaks_at new_lasting",
    "stores": "store",
    "papers": "thing_paper judge_thing_paper beginning_paper judge_beginning_paper",
    "worths": (
        "is_rule pressed shape_worth plan_worth lump_worths factors things_apart is_free bracket_paper "
        "judge_bracket_paper carried carried_on"),
    "ledger": "Ledger",
    "lengths": "used_entries lacking are_telling fewest_lengths next_length",
    "readback": "fits_shape entries_told",
    "seencuts": "seen_cuts seen_counter judge_seen_counter",
    "readings": "misfit Reading",
    "cheapplans": "plan_cost fits_shapes cheapest_plan least_cost",
    "keeping": "kept_lumps switch change_cost",
    "house": "House",
    "console": "Console",
}

CLASSES = {
    "plans.Plan": "__init__ __eq__ tables end stage",
    "ledger.Ledger": (
        "__init__ add change exchange plan things worth worth_of kept presses whole_presses twin"),
    "readings.Reading": "__init__ add pairs told lacking left twin",
    "house.House": (
        "__init__ act_word do undo redo done undone rows plan size is_nailed kept store kept_count paid anew lost "
        "keep marks since twin"),
    "console.Console": "__init__ answer",
}


class InterfaceTest(unittest.TestCase):
    def test_names_are_defined_in_their_files(self):
        for name, words in INTERFACE.items():
            module = importlib.import_module("lumpplans." + name)
            for word in words.split():
                self.assertEqual(getattr(module, word).__module__, module.__name__, word)

    def test_methods_stand_in_their_class(self):
        for place, words in CLASSES.items():
            name, class_name = place.split(".")
            module = importlib.import_module("lumpplans." + name)
            for word in words.split():
                self.assertIn(word, vars(getattr(module, class_name)))


class FormTest(unittest.TestCase):
    def files(self):
        return sorted(path for path in FOLDER.iterdir() if path.name != "__pycache__")

    def test_folder_has_python_files_only(self):
        for path in self.files():
            self.assertTrue(path.is_file() and path.suffix == ".py", path)

    def test_sizes_and_characters(self):
        for path in self.files():
            text = path.read_text(encoding="utf-8")
            self.assertTrue(all(sign == "\n" or " " <= sign <= "~" for sign in text), path)
            lines = text.splitlines()
            self.assertLessEqual(len(lines), 399, path)
            self.assertLessEqual(max(map(len, lines)), 120, path)
            for node in ast.walk(ast.parse(text)):
                if isinstance(node, ast.FunctionDef):
                    self.assertLessEqual(node.end_lineno - node.lineno + 1, 40, node.name)

    def test_imports_are_of_the_package(self):
        for path in self.files():
            for node in ast.walk(ast.parse(path.read_text(encoding="utf-8"))):
                self.assertNotIsInstance(node, ast.Import, path)
                if isinstance(node, ast.ImportFrom):
                    self.assertTrue(node.module.startswith("lumpplans."), path)

    def trees(self):
        return [(path, ast.parse(path.read_text(encoding="utf-8"))) for path in self.files()]

    def test_builtins(self):
        """Few builtins are used, and none of their names is given another meaning."""
        for path, tree in self.trees():
            for node in ast.walk(tree):
                if isinstance(node, ast.Name):
                    self.assertTrue(node.id in BUILTINS or node.id not in dir(builtins), (path, node.id))
                    if isinstance(node.ctx, ast.Store):
                        self.assertNotIn(node.id, dir(builtins), path)
                elif isinstance(node, ast.arg):
                    self.assertNotIn(node.arg, dir(builtins), path)
                elif isinstance(node, (ast.FunctionDef, ast.ClassDef)):
                    self.assertNotIn(node.name, dir(builtins), path)

    def test_methods(self):
        own = set()
        for _, tree in self.trees():
            for node in ast.walk(tree):
                if isinstance(node, ast.ClassDef):
                    own.update(part.name for part in node.body if isinstance(part, ast.FunctionDef))
        for path, tree in self.trees():
            for node in ast.walk(tree):
                if isinstance(node, ast.Call) and isinstance(node.func, ast.Attribute):
                    self.assertTrue(node.func.attr in METHODS or node.func.attr in own, (path, node.func.attr))

    def test_no_forms_that_are_barred(self):
        barred = (
            ast.GeneratorExp, ast.Yield, ast.YieldFrom, ast.Global, ast.AsyncFunctionDef, ast.Pow, ast.Div, ast.Await)
        for path, tree in self.trees():
            for node in ast.walk(tree):
                self.assertNotIsInstance(node, barred, path)
                if isinstance(node, ast.Constant):
                    self.assertNotIsInstance(node.value, (float, bytes), path)
                if isinstance(node, ast.Compare):
                    for sign, side in zip(node.ops, node.comparators):
                        if isinstance(sign, (ast.Is, ast.IsNot)):
                            self.assertIsInstance(side, ast.Constant, path)

    def test_names_are_bound_once(self):
        for path, tree in self.trees():
            names = []
            for node in tree.body:
                if isinstance(node, ast.ImportFrom):
                    names += [alias.name for alias in node.names]
                elif isinstance(node, (ast.FunctionDef, ast.ClassDef)):
                    names.append(node.name)
                elif isinstance(node, ast.Assign):
                    names += [target.id for target in node.targets]
            self.assertEqual(len(names), len(set(names)), path)

    def test_names_of_attributes_and_methods(self):
        """No name is a method in one class and an attribute in any."""
        methods, attributes = set(), set()
        for _, tree in self.trees():
            for node in ast.walk(tree):
                if isinstance(node, ast.ClassDef):
                    methods.update(part.name for part in node.body if isinstance(part, ast.FunctionDef))
                elif isinstance(node, ast.Attribute) and isinstance(node.ctx, ast.Store):
                    attributes.add(node.attr)
        self.assertEqual(methods & attributes, set())

    def test_names_in_functions(self):
        """The name _ is never read, and no two handlers of a function give their errors one name."""
        for path, tree in self.trees():
            for node in ast.walk(tree):
                if isinstance(node, ast.Name) and node.id == "_":
                    self.assertIsInstance(node.ctx, ast.Store, path)
                if isinstance(node, ast.FunctionDef):
                    caught = [part.name for part in ast.walk(node) if isinstance(part, ast.ExceptHandler) and part.name]
                    self.assertEqual(len(caught), len(set(caught)), (path, node.name))

    def test_each_import_is_used(self):
        for path, tree in self.trees():
            imported = {
                alias.name for node in tree.body if isinstance(node, ast.ImportFrom) for alias in node.names}
            used = {node.id for node in ast.walk(tree) if isinstance(node, ast.Name)}
            self.assertEqual(imported - used, set(), path)

    def test_no_name_hides_an_import(self):
        for path in self.files():
            tree = ast.parse(path.read_text(encoding="utf-8"))
            imported = {
                alias.name for node in tree.body if isinstance(node, ast.ImportFrom) for alias in node.names}
            for node in ast.walk(tree):
                if isinstance(node, ast.arg):
                    self.assertNotIn(node.arg, imported, path)
                if isinstance(node, ast.Name) and isinstance(node.ctx, ast.Store):
                    self.assertNotIn(node.id, imported, path)


if __name__ == "__main__":
    unittest.main()
