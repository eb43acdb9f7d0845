"""Rules of LANGUAGE.md that can be looked up in the files of the package, and the names of the interface."""

import ast
import builtins
import pathlib
import re
import unittest

FOLDER = pathlib.Path(__file__).resolve().parent.parent / "shareforsure"
FILES = sorted(FOLDER.glob("*.py"))
INTERFACE = {
    "errors": {"YardError": None, "BadText": ["place"], "BadTree": ["path"], "TooGreat": [], "BadGift": ["number"],
               "BadAct": ["word"], "BadAsk": ["word"], "NothingDone": [], "NameMissing": None,
               "UnknownName": ["name"]},
    "words": {"is_name": ["value"], "is_number": ["value"]},
    "sheets": {"check_yard": ["value"], "check_sheet": ["value"], "check_row": ["yard", "value"],
               "check_table": ["yard", "value"], "part_named": ["sheet", "name"], "names_of": ["sheet", "word"]},
    "lexemes": {"lexemes": ["text"]},
    "sheettexts": {"sheet_text": ["sheet"], "row_text": ["row"], "gifts_text": ["gifts"], "read_row": ["text"],
                   "read_gifts": ["text"], "read_sheet": ["text"]},
    "gifts": {"gifts_fault": ["yard", "row", "value"], "loads_of": ["yard", "gifts"], "given_of": ["yard", "gifts"],
              "left_of": ["gifts"], "full_of": ["yard", "gifts"]},
    "kinds": {"kinds_of": ["row"], "row_of": ["kinds"], "carried": ["row", "gifts", "other"]},
    "ways": {"ways_between": ["one", "other"], "done": ["one", "other", "ways"],
             "judge_ways": ["one", "other", "value"], "steps_along": ["one", "other", "ways"]},
    "most": {"best_gifts": ["yard", "row"], "most_given": ["yard", "row"], "most_so_far": ["yard", "row"]},
    "chains": {"chain_for": ["yard", "row", "gifts"], "gain": ["yard", "gifts", "chain"],
               "chain_done": ["gifts", "chain"], "judge_chain": ["yard", "row", "gifts", "value"]},
    "covers": {"cover": ["yard", "row"], "cover_price": ["yard", "cover"], "judge_cover": ["yard", "row", "value"]},
    "reached": {"gifts_with": ["yard", "row", "loads"], "bar_for": ["yard", "row", "loads"]},
    "ranks": {"no_ranks": ["n"], "ranks_after": ["c", "n", "ranks", "request"], "ranks_of": ["c", "n", "row"],
              "most_by": ["yard", "ranks"]},
    "givers": {"ToldGiver": ["yard"], "CallGiver": ["call"], "RowGiver": ["gifts"], "run": ["giver", "row"]},
    "rises": {"rise": ["c", "load"], "share": ["c"], "pull": ["yard", "house", "load"]},
    "shares": {"told_gifts": ["yard", "row"], "pull_paper": ["yard", "row"], "told_account": ["yard", "row"],
               "share_room": ["yard", "row"]},
    "players": {"player_sizes": ["c"], "levels": ["c", "sizes"], "bound_of": ["c", "sizes"], "best_sizes": ["c", "n"],
                "play": ["c", "sizes", "giver"]},
    "plays": {"judge_play": ["c", "sizes", "value"], "play_account": ["c", "sizes", "play"],
              "play_room": ["c", "sizes", "play"]},
    "tables": {"requests_of": ["yard"], "told_table": ["yard"], "greedy_table": ["yard"],
               "table_gifts": ["yard", "table", "row"]},
    "standings": {"first_standing": ["yard"], "standing_behind": ["yard", "table", "standing", "request"],
                  "given_of": ["yard", "standing"], "most_of": ["yard", "standing"], "standings": ["yard", "table"]},
    "leastshares": {"least_share": ["yard", "table"], "kept_paper": ["yard", "table", "p", "q"],
                    "met_row": ["yard", "table", "p", "q"], "late_paper": ["yard", "table", "p", "q", "m"],
                    "judge_kept": ["yard", "table", "p", "q", "value"],
                    "judge_late": ["yard", "table", "p", "q", "m", "value"]},
    "games": {"raises": ["yard", "standing", "request"], "lets": ["yard", "standing", "request"],
              "led": ["yard", "standing", "request", "gift"], "value": ["yard", "standing"], "best_share": ["yard"]},
    "gamepapers": {"giver_paper": ["yard", "p", "q"], "player_paper": ["yard", "p", "q"],
                   "judge_giver_paper": ["yard", "p", "q", "value"],
                   "judge_player_paper": ["yard", "p", "q", "value"]},
    "matches": {"PaperGiver": ["yard", "paper"], "PaperPlayer": ["yard", "paper"],
                "played": ["yard", "paper", "giver"]},
    "eager": {"first_gifts": ["yard", "m", "row"], "FirstGiver": ["yard", "m"],
              "is_eager": ["yard", "m", "row", "gifts"], "bare_row": ["m", "c"]},
    "charges": {"charge_paper": ["yard", "m", "row", "gifts", "others"],
                "judge_charges": ["yard", "m", "row", "gifts", "others", "value"]},
    "households": {"Household": ["yard", "names"]},
    "asks": {"check_day": ["names", "value"]},
    "office": {"Office": ["yard", "names", "day", "giver"]},
    "books": {"total": ["books"], "earned": ["books"]},
    "desk": {"Desk": []},
    "console": {"Console": ["desk"]},
}
CLASS_METHODS = {
    "givers": {"ToldGiver": {"give": ["request"], "loads": []}, "CallGiver": {"give": ["request"]},
               "RowGiver": {"give": ["request"]}},
    "matches": {"PaperGiver": {"give": ["request"], "standing": []},
                "PaperPlayer": {"asks": [], "told": ["gift"], "standing": []}},
    "eager": {"FirstGiver": {"give": ["request"]}},
    "households": {"Household": {"yard": [], "names": [], "name_of": ["number"], "number_of": ["name"],
                                 "worth_of": ["name"], "is_here": ["name"], "room_of": ["name"], "come": ["name"],
                                 "fall": ["name"], "here": [], "loads": [], "seen": ["names"], "take": ["name"]}},
    "office": {"Office": {"events": [], "is_over": [], "step": [], "here": [], "loads": [], "row": [], "gifts": [],
                          "books": [], "turned_away": []}},
    "desk": {"Desk": {"sheet": [], "act_word": ["act"], "do": ["act"], "undo": [], "redo": [], "acts": [],
                      "most": ["name"], "told": ["name"], "quotient": ["name"], "run": ["name"],
                      "given": ["row", "gifts"], "ran": ["giver", "row"], "show": ["row", "gifts", "cover"],
                      "least": ["name"], "best": [], "work": [], "mark": ["name"], "since": ["name"], "marks": [],
                      "twin": []}},
    "console": {"Console": {"answer": ["line"]}},
}
LIBRARY = {"math": ["gcd"]}
BARRED = ("type typing typing_extensions enum Enum IntEnum StrEnum Flag IntFlag Generic Protocol ABC ABCMeta "
          "namedtuple NamedTuple TypedDict TYPE_CHECKING abstractmethod").split()
NEVER_NAMES = ("register mro elements open input law version_info with_traceback add_note attrgetter breakpoint "
               "builtins compile copyright credits delattr dir eval exec exit gc globals help id importlib license "
               "locals methodcaller os quit super type vars sys").split()
BUILTINS = set("""len range enumerate zip min max sum abs sorted reversed int str bool bytes list tuple dict set
frozenset isinstance ord repr any all divmod pow getattr hasattr setattr iter next map Exception ValueError TypeError
KeyError IndexError LookupError ZeroDivisionError ArithmeticError OverflowError RuntimeError NotImplementedError
AttributeError
StopIteration NotImplemented""".split())
METHODS = set("""append clear copy count endswith extend find get index insert isalnum isalpha isdigit islower isspace
isupper items join keys ljust lower lstrip partition pop remove replace reverse rfind rjust rpartition rsplit rstrip
setdefault split splitlines startswith strip update upper values zfill bit_length""".split())


def tree_of(file):
    return ast.parse(file.read_text(encoding="utf-8"))


def bound_names(tree):
    """All names that a file gives to something."""
    for node in ast.walk(tree):
        if isinstance(node, ast.Name) and not isinstance(node.ctx, ast.Load):
            yield node.id
        elif isinstance(node, ast.arg):
            yield node.arg
        elif isinstance(node, (ast.FunctionDef, ast.ClassDef)):
            yield node.name
        elif isinstance(node, ast.alias):
            yield node.asname or node.name


class Interface(unittest.TestCase):
    def test_each_name_is_defined_in_its_file_with_its_arguments(self):
        for module, names in INTERFACE.items():
            defined = {node.name: node for node in tree_of(FOLDER / (module + ".py")).body
                       if isinstance(node, (ast.FunctionDef, ast.ClassDef))}
            for name, arguments in names.items():
                node = defined[name]
                if isinstance(node, ast.ClassDef):
                    made = [row for row in node.body if isinstance(row, ast.FunctionDef) and row.name == "__init__"]
                    told = [part.arg for part in made[0].args.args[1:]] if made else []
                    self.assertEqual(arguments or [], told, name)
                else:
                    self.assertEqual(arguments, [part.arg for part in node.args.args], name)
                    self.assertEqual([], node.args.defaults, name)

    def test_each_method_is_defined_in_its_class(self):
        for module, classes in CLASS_METHODS.items():
            for node in tree_of(FOLDER / (module + ".py")).body:
                if isinstance(node, ast.ClassDef) and node.name in classes:
                    told = {row.name: [part.arg for part in row.args.args[1:]] for row in node.body
                            if isinstance(row, ast.FunctionDef) and not row.name.startswith("_")}
                    self.assertEqual(classes[node.name], told, node.name)
                    self.assertFalse([row for row in node.body if getattr(row, "args", None) and row.args.defaults])


class Language(unittest.TestCase):
    def test_the_folder_has_plain_files_alone(self):
        names = [path.name for path in FOLDER.iterdir() if path.name != "__pycache__"]
        self.assertIn("__init__.py", names)
        for name in names:
            self.assertRegex(name, r"^[a-z_0-9]+\.py$")

    def test_sizes_and_characters(self):
        for file in FILES:
            text = file.read_text(encoding="utf-8")
            self.assertRegex(text, r"^[ -~\n]*$", file)
            self.assertLessEqual(len(text.split("\n")), 399, file)
            self.assertLessEqual(max(len(line) for line in text.split("\n")), 120, file)
            for node in ast.walk(tree_of(file)):
                if isinstance(node, ast.FunctionDef):
                    self.assertLessEqual(node.end_lineno - node.lineno + 1, 40, (file, node.name))

    def test_imports_name_the_file_that_defines(self):
        for file in FILES:
            for node in ast.walk(tree_of(file)):
                self.assertNotIsInstance(node, ast.Import, file)
                if isinstance(node, ast.ImportFrom) and node.module in LIBRARY:
                    for alias in node.names:
                        self.assertIsNone(alias.asname)
                        self.assertIn(alias.name, LIBRARY[node.module])
                elif isinstance(node, ast.ImportFrom):
                    self.assertEqual(0, node.level, file)
                    package, module = node.module.split(".")
                    self.assertEqual("shareforsure", package)
                    body = tree_of(FOLDER / (module + ".py")).body
                    defined = [row.name for row in body if isinstance(row, (ast.FunctionDef, ast.ClassDef))]
                    defined += [row.targets[0].id for row in body if isinstance(row, ast.Assign)]
                    for alias in node.names:
                        self.assertIsNone(alias.asname)
                        self.assertIn(alias.name, defined, file)

    def test_no_two_files_import_from_each_other(self):
        ahead = {file.stem: [node.module.split(".")[1] for node in tree_of(file).body
                             if isinstance(node, ast.ImportFrom) and node.module not in LIBRARY] for file in FILES}
        while ahead:
            free = [stem for stem in ahead if not any(other in ahead for other in ahead[stem])]
            self.assertTrue(free, ahead)
            for stem in free:
                del ahead[stem]

    def test_words_that_do_not_occur(self):
        for file in FILES:
            tree = tree_of(file)
            docstrings = {id(node.body[0].value) for node in ast.walk(tree)
                          if isinstance(node, (ast.Module, ast.ClassDef, ast.FunctionDef)) and ast.get_docstring(node)}
            names = set(bound_names(tree))
            for node in ast.walk(tree):
                if isinstance(node, ast.Constant) and isinstance(node.value, str) and id(node) not in docstrings:
                    names |= set(re.findall(r"\w+", node.value))
                    self.assertNotIn("%", node.value)
                if isinstance(node, ast.Attribute):
                    names.add(node.attr)
            self.assertFalse(names & set(BARRED), file)
            text = file.read_text(encoding="utf-8")
            for word in ("dataclass", "overload", "contextmanager", "_wall"):
                self.assertNotIn(word, text)

    def test_names_are_free(self):
        for file in FILES:
            for name in bound_names(tree_of(file)):
                self.assertNotIn(name, dir(builtins), file)
                self.assertNotIn(name, NEVER_NAMES, file)
                self.assertRegex(name, r"^(_|_?[A-Za-z][A-Za-z0-9_]*|__init__)$")

    def test_no_local_name_is_that_of_an_import_or_a_class(self):
        for file in FILES:
            tree = tree_of(file)
            fixed = {alias.name for node in tree.body if isinstance(node, ast.ImportFrom) for alias in node.names}
            fixed |= {node.name for node in tree.body if isinstance(node, ast.ClassDef)}
            for node in ast.walk(tree):
                if isinstance(node, ast.FunctionDef):
                    self.assertFalse(fixed & set(bound_names(node)), (file, node.name))

    def test_what_is_called_is_allowed(self):
        for file in FILES:
            tree = tree_of(file)
            own = set(bound_names(tree))
            methods = {row.name for other in FILES for node in tree_of(other).body if isinstance(node, ast.ClassDef)
                       for row in node.body if isinstance(row, ast.FunctionDef)}
            for node in ast.walk(tree):
                if isinstance(node, ast.Call) and isinstance(node.func, ast.Name):
                    self.assertIn(node.func.id, own | BUILTINS, file)
                if isinstance(node, ast.Call) and isinstance(node.func, ast.Attribute):
                    self.assertIn(node.func.attr, METHODS | methods, file)

    def test_statements_and_expressions_that_are_left_out(self):
        left_out = (ast.AsyncFunctionDef, ast.Global, ast.Nonlocal, ast.AnnAssign, ast.Yield, ast.YieldFrom, ast.With,
                    ast.Div, ast.Set, ast.SetComp, ast.GeneratorExp)
        for file in FILES:
            for node in ast.walk(tree_of(file)):
                self.assertNotIsInstance(node, left_out, file)
                if isinstance(node, ast.FunctionDef):
                    self.assertFalse(node.decorator_list)
                if isinstance(node, ast.Constant):
                    self.assertNotIsInstance(node.value, (float, complex))
                if isinstance(node, ast.Compare):
                    for sign, side in zip(node.ops, node.comparators):
                        if isinstance(sign, (ast.Is, ast.IsNot)):
                            self.assertIn(ast.unparse(side), ("None", "True", "False"), file)

    def test_max_and_min_with_a_key_take_lists(self):
        for file in FILES:
            for node in ast.walk(tree_of(file)):
                if isinstance(node, ast.Call) and isinstance(node.func, ast.Name) and node.func.id in ("max", "min"):
                    if "key" in [part.arg for part in node.keywords]:
                        self.assertNotRegex(ast.unparse(node.args[0]), r"^(range|zip|enumerate|reversed)\(", file)

    def test_modules_hold_plain_values_alone(self):
        for file in FILES:
            for node in tree_of(file).body:
                plain = isinstance(node, (ast.ImportFrom, ast.FunctionDef, ast.ClassDef, ast.Assign))
                self.assertTrue(plain or isinstance(node, ast.Expr) and isinstance(node.value, ast.Constant), file)
                if isinstance(node, ast.Assign):
                    for part in ast.walk(node.value):
                        self.assertNotIsInstance(part, (ast.Call, ast.Lambda), file)


if __name__ == "__main__":
    unittest.main()
