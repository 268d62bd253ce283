"""The rules of LANGUAGE.md that a look at the package's own lines can tell."""
import ast
import pathlib
import unittest

PACKAGE = pathlib.Path(__file__).resolve().parent.parent / "tracewords"

BUILTINS = set("""len range enumerate zip min max sum abs sorted reversed int str bool list tuple dict set isinstance
    ord repr any all divmod Exception ValueError TypeError KeyError IndexError LookupError ZeroDivisionError
    ArithmeticError OverflowError RuntimeError NotImplementedError property classmethod staticmethod
    super iter next map NotImplemented""".split())

BARRED = set("""register mro elements open input law version_info with_traceback add_note type typing enum Enum Flag
    Generic Protocol ABC namedtuple dataclass attrgetter breakpoint builtins compile copyright credits delattr dir
    eval exec exit gc globals help id importlib license locals methodcaller os quit setattr vars sys format
    format_map hash round filter object slice bin hex oct""".split())

LIBRARY = {"math": {"gcd", "lcm"}, "heapq": {"heappush", "heappop"}, "itertools": {"product", "combinations"}}

FORBIDDEN = (ast.Global, ast.AsyncFunctionDef, ast.Await, ast.AsyncFor, ast.AsyncWith, ast.Div, ast.GeneratorExp,
             ast.AnnAssign, ast.Import, ast.Set)

DUNDERS = set("""__init__ __eq__ __repr__ __str__ __len__ __enter__ __exit__ __call__ __iter__ __add__ __radd__ __sub__
    __rsub__ __mul__ __rmul__ __neg__ __contains__ __getitem__""".split())


def files():
    return sorted(PACKAGE.glob("*.py"))


def trees():
    return [(path, ast.parse(path.read_text(encoding="utf-8"))) for path in files()]


def trees_by_name():
    return [(path.stem, tree) for path, tree in trees()]


def inner(tree, *kinds):
    return [node for node in ast.walk(tree) if isinstance(node, kinds)]


def bound_locally(function):
    """All names that a function binds: parameters, targets, nested functions."""
    found = [one.arg for one in inner(function.args, ast.arg)]
    found += [one.id for one in inner(function, ast.Name) if isinstance(one.ctx, (ast.Store, ast.Del))]
    found += [one.name for one in inner(function, ast.FunctionDef) if one is not function]
    return found


def own_imports(tree):
    return [(node.module.split(".")[1], name.name) for node in tree.body if isinstance(node, ast.ImportFrom)
            and node.module.startswith("tracewords.") for name in node.names]


# The functions and classes of the interface, by their files, and the methods and properties of the classes.
INTERFACE = {
    "basics": "is_integer is_count",
    "ratios": "is_number Ratio",
    "solved": "steps kernel solution is_solution",
    "tables": "is_table idle times mixed scaled sum_on determinant about undone led long_row from_long",
    "houses": "House is_word about_house side led_house",
    "lots": "base_words dimension lot_rows every_table mixture_of is_mixture_of table_by is_closed",
    "rooms": "is_room led_out least_room sum_room meet_room noughts images",
    "cuts": "cut rest_house split_sums",
    "leads": "commuting is_commuting leads is_lead middle",
    "partners": "partner is_partner onto is_onto",
    "sums": "sums_table sums_rank parts counts",
    "nil": "nil_part is_nil nil_mixture is_nil_mixture nil_room",
    "alike": "both_words unlike_word alike_sums is_unlike_word",
    "changes": "change is_change",
    "machines": "Machine house_machine sum_machine",
    "least": "least_machine is_least state_words unlike_by",
    "rounds": "round_sum standard power_sums line_numbers",
    "fives": "five same_five word_by every_by",
    "texts": "sorts is_of_sort written",
    "readers": "read",
    "claims": "words is_claim is_true contrary paper_of is_paper_of",
    "commands": "is_name is_command is_deed",
    "desk": "Desk Trial tried",
}

METHODS = {
    "Ratio": "top bottom sign is_whole __add__ __radd__ __sub__ __rsub__ __mul__ __rmul__ __neg__ over size is_below "
             "is_at_most __eq__ total __str__ __repr__",
    "House": "width many letters table word_sum __eq__ __repr__",
    "Machine": "states many start tables ends worth __eq__ __repr__",
    "Desk": "names labels __len__ __getitem__ __contains__ claim_of do __call__ do_all attempt attach fits lines copy "
            "again",
    "Trial": "__enter__ __exit__",
}


class LanguageTest(unittest.TestCase):
    def test_the_interface_stands_in_its_files(self):
        known = dict(trees_by_name())
        for file, names in INTERFACE.items():
            defined = [node.name for node in known[file].body if isinstance(node, (ast.FunctionDef, ast.ClassDef))]
            for name in names.split():
                self.assertIn(name, defined, file)

    def test_methods_stand_in_their_classes(self):
        classes = {node.name: node for _, tree in trees() for node in tree.body if isinstance(node, ast.ClassDef)}
        for name, methods in METHODS.items():
            defined = [node.name for node in classes[name].body if isinstance(node, ast.FunctionDef)]
            for method in methods.split():
                self.assertIn(method, defined, name)

    def test_own_errors_alone_are_caught(self):
        own = {node.name for node in dict(trees_by_name())["errors"].body if isinstance(node, ast.ClassDef)}
        for path, tree in trees():
            for node in inner(tree, ast.Try):
                self.assertFalse(node.finalbody, path)
                for handler in node.handlers:
                    self.assertTrue({one.id for one in inner(handler.type, ast.Name)} <= own, path)

    def test_generators_are_iterated_at_once(self):
        names = {node.name for _, tree in trees() for node in inner(tree, ast.FunctionDef)
                 if inner(node, ast.Yield, ast.YieldFrom)}
        for path, tree in trees():
            fine = [node.iter for node in inner(tree, ast.For, ast.comprehension)]
            fine += [node.value for node in inner(tree, ast.YieldFrom)]
            fine += [node.args[0] for node in inner(tree, ast.Call) if isinstance(node.func, ast.Name) and node.args
                     and node.func.id in ["list", "tuple", "sorted"]]
            for node in inner(tree, ast.Call):
                if isinstance(node.func, ast.Name) and node.func.id in names:
                    self.assertIn(node, fine, (path, node.lineno))
            used = [node.func for node in inner(tree, ast.Call)]
            for node in inner(tree, ast.Name):
                if node.id in names:
                    self.assertIn(node, used, (path, node.lineno))

    def test_the_folder_holds_python_files_alone(self):
        names = [path.name for path in PACKAGE.iterdir() if path.name != "__pycache__"]
        self.assertEqual(sorted(names), [path.name for path in files()])
        self.assertIn("__init__.py", names)

    def test_size_and_characters(self):
        for path in files():
            text = path.read_bytes().decode("ascii")
            self.assertTrue(all(sign == "\n" or " " <= sign <= "~" for sign in text), path)
            lines = text.split("\n")
            self.assertLessEqual(len(lines), 399, path)
            self.assertLessEqual(max(map(len, lines)), 120, path)

    def test_functions_have_at_most_40_lines(self):
        for path, tree in trees():
            for node in inner(tree, ast.FunctionDef):
                self.assertLessEqual(node.end_lineno - node.lineno + 1, 40, (path, node.name))

    def test_forbidden_statements(self):
        for path, tree in trees():
            for node in inner(tree, *FORBIDDEN):
                self.fail(f"{path}:{node.lineno} {node}")
            for node in inner(tree, ast.Constant):
                self.assertNotIsInstance(node.value, (float, complex), path)
            for node in inner(tree, ast.Compare):
                if any(isinstance(one, (ast.Is, ast.IsNot)) for one in node.ops):
                    self.assertIn(ast.unparse(node.comparators[0]), ["None", "True", "False"], path)

    def test_module_level(self):
        for path, tree in trees():
            self.assertIsNotNone(ast.get_docstring(tree), path)
            bound = []
            for node in tree.body[1:]:
                self.assertIsInstance(node, (ast.ImportFrom, ast.FunctionDef, ast.ClassDef, ast.Assign), path)
                if isinstance(node, ast.ImportFrom):
                    bound += [name.asname or name.name for name in node.names]
                elif isinstance(node, ast.Assign):
                    ast.literal_eval(node.value)
                    bound += [one.id for one in node.targets]
                else:
                    bound.append(node.name)
            self.assertEqual(len(bound), len(set(bound)), path)

    def test_imports_name_the_very_file(self):
        defined = {path.stem: [node.name for node in tree.body if isinstance(node, (ast.FunctionDef, ast.ClassDef))]
                   + [one.id for node in tree.body if isinstance(node, ast.Assign) for one in node.targets]
                   for path, tree in trees()}
        for path, tree in trees():
            for node in inner(tree, ast.ImportFrom):
                self.assertEqual(node.level, 0, path)
                if node.module in LIBRARY:
                    self.assertTrue({name.name for name in node.names} <= LIBRARY[node.module], path)
                else:
                    self.assertTrue(node.module.startswith("tracewords."), path)
                self.assertFalse([name for name in node.names if name.asname], path)
            for file, name in own_imports(tree):
                self.assertIn(name, defined[file], path)

    def test_imports_are_used(self):
        for path, tree in trees():
            used = {node.id for node in inner(tree, ast.Name)}
            for node in inner(tree, ast.ImportFrom):
                for name in node.names:
                    self.assertIn(name.name, used, path)

    def test_no_circle_of_imports(self):
        ahead = {path.stem: {file for file, _ in own_imports(tree)} for path, tree in trees()}
        while ahead:
            ready = [name for name, needs in ahead.items() if not needs & set(ahead)]
            self.assertTrue(ready, ahead)
            for name in ready:
                del ahead[name]

    def test_local_names(self):
        for path, tree in trees():
            barred = {node.name for node in tree.body if isinstance(node, ast.ClassDef)} | BUILTINS | BARRED
            barred |= {name.name for node in inner(tree, ast.ImportFrom) for name in node.names}
            for function in inner(tree, ast.FunctionDef):
                self.assertFalse(barred & set(bound_locally(function)), (path, function.name))

    def test_known_names_alone(self):
        for path, tree in trees():
            bound = {"self", "cls"}
            for node in tree.body:
                if isinstance(node, ast.ImportFrom):
                    bound |= {name.name for name in node.names}
                elif isinstance(node, (ast.FunctionDef, ast.ClassDef)):
                    bound.add(node.name)
            bound |= {node.id for node in inner(tree, ast.Name) if isinstance(node.ctx, ast.Store)}
            bound |= {node.arg for node in inner(tree, ast.arg)}
            bound |= {node.name for node in inner(tree, ast.ExceptHandler)}
            for node in inner(tree, ast.Name):
                self.assertIn(node.id, bound | BUILTINS, path)
                self.assertNotIn(node.id, BARRED, path)
            for node in inner(tree, ast.Attribute):
                self.assertNotIn(node.attr, {"register", "mro", "elements", "open", "input", "law", "format"}, path)
                self.assertFalse(node.attr.startswith("__"), path)

    def test_strings(self):
        for path, tree in trees():
            for node in inner(tree, ast.Constant):
                if isinstance(node.value, str):
                    self.assertNotIn("%", node.value, path)
                    self.assertNotIn("__", node.value, path)

    def test_classes_and_decorators(self):
        for path, tree in trees():
            for node in inner(tree, ast.ClassDef):
                self.assertFalse(node.decorator_list, path)
                self.assertLessEqual(len(node.bases), 1, path)
                for one in node.body:
                    self.assertTrue(isinstance(one, (ast.FunctionDef, ast.Expr)), (path, node.name))
            for node in inner(tree, ast.FunctionDef):
                for one in node.decorator_list:
                    self.assertIn(ast.unparse(one), ["property", "classmethod", "staticmethod"], path)
                if node.name.startswith("__"):
                    self.assertIn(node.name, DUNDERS, path)

    def test_stars(self):
        for path, tree in trees():
            for call in inner(tree, ast.Call):
                for one in call.args:
                    if isinstance(one, ast.Starred):
                        self.assertIsInstance(one.value, (ast.Name, ast.Attribute, ast.Constant), path)
            for one in inner(tree, ast.Starred):
                self.assertNotIsInstance(one.value, ast.Call, (path, one.lineno))

    def test_what_is_iterated_at_once(self):
        at_once = ["range", "zip", "enumerate", "reversed"]
        for path, tree in trees():
            fine = [node.iter for node in inner(tree, ast.For, ast.comprehension)]
            fine += [node.args[0] for node in inner(tree, ast.Call) if isinstance(node.func, ast.Name) and node.args
                     and node.func.id in ["list", "tuple", "dict", "sorted", "sum", "any", "all", "enumerate", "zip"]]
            for node in inner(tree, ast.Call):
                if isinstance(node.func, ast.Name) and node.func.id in at_once:
                    self.assertIn(node, fine, (path, node.lineno))

    def test_growing_in_place(self):
        for path, tree in trees():
            for node in inner(tree, ast.AugAssign):
                self.assertIsInstance(node.value, ast.Constant, path)


if __name__ == "__main__":
    unittest.main()
