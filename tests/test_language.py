"""The form of the package's files: the rules of the language that a look at the code can check."""

import ast
import builtins
import os
import re
import unittest

TOP = os.path.join(os.path.dirname(os.path.dirname(os.path.abspath(__file__))), "primetalks")
BUILTINS = """len range enumerate zip min max sum abs sorted reversed int str bool list tuple dict set isinstance ord repr
any all divmod Exception ValueError TypeError KeyError IndexError""".split()
METHODS = """append clear copy count endswith extend find get index insert isalnum isalpha isdigit islower isspace isupper
items join keys ljust lower lstrip partition pop remove replace reverse rfind rjust rpartition rsplit rstrip setdefault
split splitlines startswith strip update upper values zfill bit_length""".split()
BARRED = """register mro elements open input law version_info with_traceback add_note type typing enum Enum namedtuple
dataclass overload contextmanager globals locals exec eval compile getattr setattr hasattr vars dir id""".split()
AT_ONCE = ["list", "tuple", "dict", "sorted", "sum", "any", "all", "enumerate", "zip"]
SPECIAL = ["__init__", "__eq__"]
LIBRARY = {"heapq": ["heappush", "heappop"], "math": ["gcd"]}
INTERFACE = {
    "books": ["Book"], "programs": ["Program"],
    "booktexts": ["book_text", "read_book", "book_fault", "book_goes_on"],
    "rowtexts": ["row_text", "read_row", "row_fault", "word_text", "read_word", "word_fault"],
    "tabletexts": ["table_text", "read_table", "table_text_fault"],
    "plantexts": ["plan_text", "read_plan", "plan_text_fault"],
    "programtexts": ["program_text", "read_program", "program_fault"],
    "steps": ["steps_of", "behind", "lessening"],
    "logs": ["log_fault", "is_log", "rows_after", "ends_by", "log_for"],
    "norms": ["norm", "norms", "norms_fault"],
    "sides": ["mirrored", "is_simple", "is_sided"],
    "shortest": ["shortest_end", "count_shortest", "shortest_at", "shortest_number"],
    "levels": ["alike_to", "depth_apart", "lots_to"],
    "plans": ["plan_fault", "is_plan", "plan_depth", "plan_for", "played", "count_plays"],
    "tables": ["word_by", "table_fault", "is_table"],
    "rounds": ["way_down", "rounds", "rounds_fault", "is_rounds", "parts_at"],
    "primes": ["prime_table", "primes", "prime_row", "is_prime", "alike", "why_prime"],
    "parts": ["without_left", "without_right", "common_left", "common_right", "places_in"],
    "roots": ["root", "common_root", "may_change"],
    "turning": ["turn_of", "least_turn", "leader"],
    "codes": ["strung", "is_strung", "count_strings", "string_at", "string_number"],
    "joining": ["joined", "renamed", "talks_from", "only_from"],
    "across": ["alike_across", "changed_talk"],
    "least": ["ranks", "least_book", "prime_book"],
    "idle": ["idle_rules", "is_idle", "thinned"],
    "allalike": ["count_alike", "alike_at", "alike_number", "shortest_alike"],
    "words": ["left_by", "next_letters", "letter_fault", "is_finished", "rest_of"],
    "spokenwords": ["spoken", "is_spoken"],
    "counted": ["count_words", "count_apart", "word_at", "word_number"],
    "parting": ["parting_word", "is_parting_word"],
    "checks": ["check_fault", "is_checked", "kept_lots", "gone_through", "doable"],
    "runs": ["run", "run_fault"],
    "together": ["together", "are_made"],
    "audits": ["audit_table", "audit_plan", "audit_word"],
    "programaudits": ["audit_program", "audit_pair"],
    "sessions": ["Session"],
    "sessiontexts": ["write_session", "read_session"],
}
INTERFACE_METHODS = {
    "Book": ["talks", "rules", "__eq__"], "Program": ["procs", "__eq__"],
    "Session": ["do", "is_question", "answer", "would", "count", "deeds", "undo", "again", "at", "copy", "trial",
                "book", "watched", "__eq__"],
}


def files():
    """The pairs of a module's name and its text."""
    found = []
    for name in sorted(os.listdir(TOP)):
        if name != "__pycache__":
            with open(os.path.join(TOP, name), encoding="utf-8") as file:
                found.append((name, file.read()))
    return found


def trees():
    """The pairs of a module's name and its tree."""
    return [(name, ast.parse(text)) for name, text in files()]


def nodes(kind):
    """The triples of a module's name, a node of this kind and its line."""
    return [(name, node, getattr(node, "lineno", 0)) for name, tree in trees() for node in ast.walk(tree)
            if isinstance(node, kind)]


def plain_value(node):
    """Whether a node is a literal of plain values."""
    if isinstance(node, (ast.Tuple, ast.List)):
        return all(plain_value(part) for part in node.elts)
    if isinstance(node, ast.Dict):
        return all(plain_value(part) for part in node.keys + node.values)
    return isinstance(node, ast.Constant)


class LanguageTest(unittest.TestCase):
    """LANGUAGE.md, as far as it is checked here"""

    def test_files_and_characters(self):
        for name, text in files():
            self.assertRegex(name, r"^[a-z_][a-z0-9_]*\.py$")
            self.assertTrue(all(" " <= sign <= "~" or sign == "\n" for sign in text), name)
            lines = text.split("\n")
            self.assertLessEqual(len(lines) - 1, 399, name)
            self.assertLessEqual(max(len(line) for line in lines), 120, name)
            self.assertTrue(text.endswith("\n") and not any(line.endswith(" ") for line in lines), name)

    def test_sizes_of_functions(self):
        for name, node, line in nodes(ast.FunctionDef):
            self.assertLessEqual(node.end_lineno - line + 1, 40, (name, node.name))
            self.assertEqual(node.decorator_list, [], (name, node.name))
            self.assertIsNotNone(ast.get_docstring(node) or node.name in SPECIAL or None, (name, node.name))

    def test_module_level(self):
        allowed = (ast.ImportFrom, ast.FunctionDef, ast.ClassDef, ast.Assign, ast.Expr)
        for name, tree in trees():
            self.assertIsNotNone(ast.get_docstring(tree), name)
            bound = []
            for at, node in enumerate(tree.body):
                self.assertIsInstance(node, allowed, (name, node.lineno))
                if isinstance(node, ast.Expr):
                    self.assertEqual(at, 0, (name, node.lineno))
                elif isinstance(node, ast.Assign):
                    self.assertTrue(plain_value(node.value) and isinstance(node.targets[0], ast.Name), name)
                    bound.append(node.targets[0].id)
                elif isinstance(node, ast.ImportFrom):
                    bound.extend(alias.name for alias in node.names)
                else:
                    bound.append(node.name)
            self.assertEqual(len(bound), len(set(bound)), name)

    def test_imports(self):
        defined = {name[:-3]: [node.name for node in tree.body if isinstance(node, (ast.FunctionDef, ast.ClassDef))]
                   + [node.targets[0].id for node in tree.body if isinstance(node, ast.Assign)]
                   for name, tree in trees()}
        ahead = {}
        for name, tree in trees():
            ahead[name[:-3]] = []
            for node in ast.walk(tree):
                self.assertNotIsInstance(node, ast.Import, name)
                if isinstance(node, ast.ImportFrom) and node.module in LIBRARY:
                    self.check_library(tree, node)
                elif isinstance(node, ast.ImportFrom):
                    self.assertRegex(node.module, r"^primetalks\.[a-z]+$")
                    ahead[name[:-3]].append(node.module[11:])
                    for alias in node.names:
                        self.assertIsNone(alias.asname)
                        self.assertIn(alias.name, defined[node.module[11:]])
                        used = [part for part in ast.walk(tree) if isinstance(part, ast.Name) and part.id == alias.name]
                        self.assertTrue(used, (name, alias.name))
        done = []
        while len(done) < len(ahead):
            more = [name for name in ahead if name not in done and all(other in done for other in ahead[name])]
            self.assertTrue(more, "files import from each other")
            done.extend(more)

    def check_library(self, tree, node):
        """What a file imports from the library is only called, by its bare name and in functions."""
        called = [part.func for function in tree.body if isinstance(function, ast.FunctionDef)
                  for part in ast.walk(function) if isinstance(part, ast.Call) and not part.keywords]
        for alias in node.names:
            self.assertIsNone(alias.asname)
            self.assertIn(alias.name, LIBRARY[node.module])
            used = [part for part in ast.walk(tree) if isinstance(part, ast.Name) and part.id == alias.name]
            self.assertTrue(used and all(part in called for part in used), (node.module, alias.name))

    def test_the_interface_is_defined_where_it_is_listed(self):
        self.assertEqual([name for name in INTERFACE if name + ".py" not in os.listdir(TOP)], [])
        for name, tree in trees():
            own = [node.name for node in tree.body if isinstance(node, (ast.FunctionDef, ast.ClassDef))]
            for wanted in INTERFACE.get(name[:-3], []):
                self.assertIn(wanted, own)
            for node in tree.body:
                if isinstance(node, ast.ClassDef) and node.name in INTERFACE_METHODS:
                    methods = [part.name for part in node.body if isinstance(part, ast.FunctionDef)]
                    for wanted in INTERFACE_METHODS[node.name]:
                        self.assertIn(wanted, methods)

    def test_statements_and_expressions(self):
        barred = (ast.GeneratorExp, ast.Lambda, ast.Global, ast.Nonlocal, ast.AsyncFunctionDef, ast.With, ast.Yield,
                  ast.NamedExpr, ast.Delete, ast.Div, ast.Pow, ast.Match)
        self.assertEqual([(name, line) for name, _, line in nodes(barred)], [])
        for name, node, line in nodes(ast.Compare):
            for sign, right in zip(node.ops, node.comparators):
                if isinstance(sign, (ast.Is, ast.IsNot)):
                    self.assertIsInstance(right, ast.Constant, (name, line))
        for name, node, line in nodes(ast.ExceptHandler):
            self.assertEqual(node.type.id, "WrongSign", (name, line))
        for name, node, line in nodes(ast.Raise):
            self.assertIsInstance(node.exc, ast.Call, (name, line))

    def test_sets_are_only_measured_or_sorted(self):
        for name, tree in trees():
            allowed = []
            for node in ast.walk(tree):
                if isinstance(node, ast.Call) and isinstance(node.func, ast.Name) and node.func.id in ("sorted", "len"):
                    allowed.extend(node.args)
            for node in ast.walk(tree):
                if isinstance(node, (ast.Set, ast.SetComp)) or isinstance(node, ast.Call) \
                        and isinstance(node.func, ast.Name) and node.func.id in ("set", "frozenset"):
                    self.assertIn(node, allowed, (name, node.lineno))

    def test_views_are_iterated_at_once(self):
        iterated = []
        for _, node, _ in nodes((ast.For, ast.comprehension)):
            iterated.append(ast.dump(node.iter))
        for _, node, _ in nodes(ast.Call):
            if isinstance(node.func, ast.Name) and node.func.id in AT_ONCE:
                iterated.extend(ast.dump(part) for part in node.args[:1])
        for name, node, line in nodes(ast.Call):
            plain = isinstance(node.func, ast.Name) and node.func.id in ("zip", "enumerate", "reversed", "range")
            view = isinstance(node.func, ast.Attribute) and node.func.attr in ("items", "keys", "values")
            if plain or view:
                self.assertTrue(ast.dump(node) in iterated, (name, line))

    def test_names(self):
        every = dir(builtins)
        for name, tree in trees():
            imports = [alias.name for node in tree.body if isinstance(node, ast.ImportFrom) for alias in node.names]
            classes = [node.name for node in tree.body if isinstance(node, ast.ClassDef)]
            for node in ast.walk(tree):
                if isinstance(node, ast.Name) and isinstance(node.ctx, ast.Load) and node.id in every:
                    self.assertIn(node.id, BUILTINS, (name, node.lineno))
                bound = None
                if isinstance(node, ast.Name) and isinstance(node.ctx, ast.Store):
                    bound = node.id
                if isinstance(node, ast.arg):
                    bound = node.arg
                if isinstance(node, ast.ExceptHandler):
                    bound = node.name
                if bound:
                    self.assertNotIn(bound, every + imports + classes + BARRED, (name, node.lineno))
                    self.assertRegex(bound, r"^(_|[A-Za-z][A-Za-z0-9_]*)$")
                if isinstance(node, ast.FunctionDef):
                    self.assertNotIn(node.name, every + BARRED, (name, node.lineno))
                    self.assertTrue(node.name in SPECIAL or not node.name.startswith("_"), (name, node.name))

    def test_methods_and_attributes(self):
        own = [node.name for _, node, _ in nodes(ast.FunctionDef)]
        kept = [node.attr for _, node, _ in nodes(ast.Attribute) if isinstance(node.ctx, ast.Store)]
        methods = [part.name for _, node, _ in nodes(ast.ClassDef) for part in node.body
                   if isinstance(part, ast.FunctionDef)]
        taken = [name for kind in (str, int, list, dict, set, bytes) for name in dir(kind)]
        for name in methods + kept:
            self.assertTrue(name not in taken or name in SPECIAL or name in ("count", "index", "copy"), name)
        for name, node, _ in nodes(ast.ClassDef):
            stored = [part.attr for part in ast.walk(node) if isinstance(part, ast.Attribute)
                      and isinstance(part.ctx, ast.Store)]
            both = [part.name for part in node.body if isinstance(part, ast.FunctionDef) and part.name in stored]
            self.assertEqual(both, [], (name, node.name))
        for name, node, line in nodes(ast.Call):
            if isinstance(node.func, ast.Attribute):
                self.assertIn(node.func.attr, METHODS + own, (name, line))
                self.assertFalse(node.keywords and node.func.attr in METHODS, (name, line))
        for name, node, line in nodes(ast.Attribute):
            if isinstance(node.ctx, ast.Load):
                self.assertIn(node.attr, METHODS + methods + kept, (name, line))

    def test_words_and_strings(self):
        for name, text in files():
            self.assertIsNone(re.search(r"_wall|__class__|__name__|\t", text), name)
        for name, node, line in nodes(ast.Constant):
            if isinstance(node.value, str):
                self.assertNotIn("%", node.value, (name, line))
                self.assertFalse(node.value in BARRED, (name, line))
                self.assertIsNone(re.search(r"[^ -~\n]", node.value), (name, line))
        for name, node, line in nodes(ast.JoinedStr):
            inner = [part for part in ast.walk(node) if isinstance(part, ast.FormattedValue)
                     for value in ast.walk(part.value) if isinstance(value, ast.Constant) and isinstance(value.value, str)]
            self.assertEqual(inner, [], (name, line))


if __name__ == "__main__":
    unittest.main()
