"""The files of the package: their form, and the names that callers take from them."""

import ast
import builtins
import inspect
import importlib
import io
import pathlib
import tokenize
import unittest

PACKAGE = pathlib.Path(__file__).resolve().parent.parent / "onepolicy"

# The functions of each module that has landed, with the names of their arguments.
INTERFACE = {
    "octets": {"folded": "octets", "sum_number": "octets", "moved_sum": "number olds news"},
    "addresses": {
        "is_plain": "address", "show_address": "address", "parse_address": "text", "in_prefix": "prefix address",
    },
    "packets": {"fault": "packet", "size_of": "packet"},
    "stubs": {"is_stub": "stub", "write_stub": "stub", "read_stub": "octets"},
    "packet_writing": {"write_packet": "packet", "stub_of": "packet"},
    "packet_reading": {"read_packet": "octets"},
    "ways": {
        "way_of": "packet", "way_of_stub": "stub", "turned": "way", "moved": "packet way", "moved_stub": "stub way",
    },
    "circle": {"later": "a b", "later_one": "a b", "lies": "number first last"},
    "options": {"shift_of": "options"},
    "talks": {"begun": "segment", "tracked": "talk x segment", "segment_end": "segment"},
    "ground": {
        "fault_ground": "ground", "is_inside": "ground address", "is_own": "ground address",
        "wrong_side": "ground side packet", "side_of": "ground packet",
    },
    "bindings": {
        "fault_pool": "ground pool", "free_ports": "book moment pool kind address",
        "end_for": "book moment pool kind address port",
    },
    "moving": {"moved_failure": "ground packet way out"},
    "flows": {
        "new_book": "ground part moment", "swept": "book moment", "carry": "book moment packet", "may_open": "packet",
        "opened": "book moment packet plan version room", "cut_below": "book moment version", "held": "book version",
        "fault_times": "times",
    },
    "plans": {"planned": "ground fate times packet chosen"},
    "answers": {
        "own_for": "ground packet", "expired": "ground packet", "refusing": "ground packet", "reset": "packet",
    },
    "steering": {"mixed": "address", "steered": "ground octets"},
    "boxes": {
        "is_number": "value", "whole_box": "", "has_point": "box point", "least_point": "box", "parted": "box field value",
    },
    "tables": {
        "point_of": "side packet", "decider": "table point", "verdict": "table point", "fault_of_table": "table",
    },
    "covers": {
        "meets": "match box", "contains": "match box", "decides": "table box index", "is_alike": "table box index",
        "accepts": "claim cover",
    },
    "claims": {
        "is_true_at": "claim point", "settle": "claim", "met": "table", "differs": "table other box",
        "changed": "table other box",
    },
    "limits": {
        "is_name": "name", "fault_of_limits": "rows", "key_of": "row asker", "swept": "rows states moment",
        "kept_keys": "rows states moment", "ask": "rows states holds moment asker cost", "turned": "states rows others",
    },
    "balance": {
        "fault_of_services": "services", "eligible": "service", "mark": "client name copy", "rank": "client server",
        "empty_state": "", "swept_clients": "services state moment", "look": "service state client moment",
        "take": "services index state client moment", "ended": "state service server client moment",
    },
    "moves": {"moves": "service other clients", "right_moves": "service other clients rows"},
    "health": {
        "observed": "states rise fall results", "ordered": "states name health", "with_healths": "services states",
    },
    "heads": {
        "is_method": "value", "has_body": "method", "is_repeatable": "method", "answers_have_body": "method",
        "is_octets": "value", "is_number": "value", "is_name": "value", "is_value": "value wide",
        "is_headers": "value wide", "is_target": "value wide", "is_host": "value", "is_request": "value wide",
        "is_answer": "value method wide", "sign_of": "octet", "is_signs": "value", "is_size": "word",
        "is_number_of_octets": "word", "values_of": "headers name",
    },
    "writing": {"write_request": "request", "write_answer": "answer method"},
    "paths": {"normal": "target", "print_target": "form", "is_segment": "value", "is_plain_segment": "value"},
    "routes": {
        "fault_routes": "policy", "fault_errors": "policy", "fits_route": "route method host segments",
        "route_of": "routes method host segments", "error_row": "errors word",
    },
    "headers": {
        "fault_headers": "policy", "fault_trusted": "policy", "is_trusted": "trusted address",
        "inside_headers": "headers trusted client name given", "outside_headers": "headers given",
    },
    "sending": {
        "inside_octets": "policy route client name request", "outside_octets": "policy method answer",
        "own_octets": "policy method word",
    },
    "policytext": {"is_plain_policy": "value", "read_policy": "text", "print_policy": "policy"},
    "hidden": {"twins": "ground w versions others rows"},
    "versions": {"values_of_policy": "policy", "policy_of": "values", "fault_of_policy": "ground policy"},
    "door": {
        "is_whole": "value low", "are_octets": "value", "is_name": "value", "is_reaction": "value", "is_arrival": "value",
    },
    "realize": {"realize": "edge plan", "settle": "edge"},
    "judge": {"judge": "ground versions log"},
}

# The classes of each module that has landed, with their methods and the names of their arguments.
CLASSES = {
    ("reading", "Reader"): {
        "__init__": "method wide", "feed": "octets", "place": "", "is_between": "", "copy": "",
    },
    ("sending", "Lives"): {
        "__init__": "", "request": "versions version moment name client request desk",
        "fault": "versions version moment name client word desk", "gone": "versions version moment connection desk",
        "inside": "versions version moment name k reaction desk", "over": "versions version moment desk",
        "cut": "cut moment desk", "twin": "",
    },
    ("plain", "Plain"): {
        "__init__": "ground w moment", "take": "versions number moment version event", "living": "", "twin": "",
    },
    ("door", "Door"): {"__init__": "ground", "events": "moment arrival", "moment": "", "next": "", "twin": ""},
    ("links", "Bag"): {"__init__": "", "put": "message", "rows": "", "at": "index", "take": "index", "twin": ""},
    ("links", "Sender"): {"__init__": "life", "send": "body", "again": "", "had": "k", "rows": "", "twin": ""},
    ("links", "Receiver"): {"__init__": "life", "receive": "message", "rows": "", "twin": ""},
    ("workers", "Worker"): {"__init__": "ground w life", "begin": "moment versions", "take": "body", "twin": ""},
    ("edge", "Edge"): {
        "__init__": "ground policy", "step": "step", "links": "", "kept": "", "lives": "", "stamped": "",
        "version": "number", "log": "", "twin": "",
    },
}

# The attributes that the interface lists.
ATTRIBUTES = {
    ("links", "Sender"): "life", ("links", "Receiver"): "life",
    ("workers", "Worker"): "life plain versions sender receiver",
}

BUILTINS = (
    "len range enumerate zip min max sum abs sorted reversed int str bool list tuple dict set isinstance ord repr any all "
    "divmod Exception ValueError TypeError KeyError IndexError LookupError ZeroDivisionError ArithmeticError "
    "OverflowError RuntimeError NotImplementedError"
).split()
METHODS = (
    "append clear copy count endswith extend find get index insert isalnum isalpha isdigit islower isspace isupper items "
    "join keys ljust lower lstrip partition pop remove replace reverse rfind rjust rpartition rsplit rstrip setdefault "
    "split splitlines startswith strip update upper values zfill bit_length add discard"
).split()
STATEMENTS = (
    ast.Assign, ast.AugAssign, ast.If, ast.While, ast.For, ast.Return, ast.Break, ast.Continue, ast.Pass, ast.Raise,
    ast.Expr, ast.FunctionDef, ast.ClassDef, ast.ImportFrom, ast.Try, ast.Delete, ast.Assert,
)
BARRED = "mro elements open input law version_info with_traceback add_note eval exec compile globals locals vars".split()
BARRED_WORDS = "typing enum Enum Flag Generic Protocol ABC namedtuple NamedTuple TypedDict dataclass overload".split()
BARRED_STARTS = ("_wall", "_pe_", "_dcw_", "_enum_", "_cm_", "_twin_re_", "_lay_", "_law_", "_stub_", "_sre", "__")
BARRED_NAMES = ("_cold", "_tuplegetter", "_outside", "_record", "_written_out", "_member_names")


def files():
    return sorted(path for path in PACKAGE.iterdir() if path.name != "__pycache__")


def trees():
    return [(path, ast.parse(path.read_text())) for path in files()]


def methods_of(tree):
    """Return the nodes of the methods of a tree."""
    return [node for kind in tree.body if isinstance(kind, ast.ClassDef) for node in kind.body]


def bound_names(tree):
    """Return the names that a tree binds: functions, classes, parameters and variables, but no methods."""
    names, methods = [], methods_of(tree)
    for node in ast.walk(tree):
        if isinstance(node, (ast.FunctionDef, ast.ClassDef)) and node not in methods:
            names.append(node.name)
        elif isinstance(node, ast.ExceptHandler):
            names.append(node.name)
        elif isinstance(node, ast.arg):
            names.append(node.arg)
        elif isinstance(node, ast.Name) and isinstance(node.ctx, ast.Store):
            names.append(node.id)
    return names


def strings_of(tree):
    """Return the strings that a tree writes, the parts of f-strings among them."""
    return [node.value for node in ast.walk(tree) if isinstance(node, ast.Constant) and isinstance(node.value, str)]


def literals_of(text):
    """Return the strings that a text writes: those that stand side by side as one, and each literal by itself."""
    found = strings_of(ast.parse(text))
    for token in tokenize.generate_tokens(io.StringIO(text).readline):
        if token.type == tokenize.STRING:
            found += strings_of(ast.parse(token.string, mode="eval"))
        # From Python 3.12 on, an f-string is no token, but each of its parts is one.
        elif tokenize.tok_name[token.type] == "FSTRING_MIDDLE":
            found.append(token.string)
    return found


def barred_endings(text):
    """Return the strings of a text that end as no literal may."""
    return [literal for literal in literals_of(text) if literal.endswith(("._", ".__"))]


class Files(unittest.TestCase):
    def test_only_plain_files(self):
        self.assertLessEqual(len(files()), 100)
        for path in files():
            with self.subTest(path.name):
                self.assertEqual(path.suffix, ".py")
                self.assertTrue(path.stem.replace("_", "a").isalnum() and path.stem == path.stem.lower())
                self.assertNotIn(path.stem, dir(builtins))

    def test_signs_and_sizes(self):
        for path in files():
            with self.subTest(path.name):
                text = path.read_bytes()
                self.assertEqual([octet for octet in text if octet != 10 and not 32 <= octet <= 126], [])
                lines = text.split(b"\n")
                self.assertLessEqual(len(lines), 400)
                self.assertLessEqual(max(len(line) for line in lines), 120)

    def test_functions_are_short(self):
        for path, tree in trees():
            for node in ast.walk(tree):
                if isinstance(node, ast.FunctionDef):
                    with self.subTest((path.name, node.name)):
                        self.assertLessEqual(node.end_lineno - node.lineno + 1, 40)


class Imports(unittest.TestCase):
    def test_names_come_from_the_files_that_define_them(self):
        defined = {path.stem: {node.name for node in tree.body if hasattr(node, "name")} | {
            target.id for node in tree.body if isinstance(node, ast.Assign) for target in node.targets
        } for path, tree in trees()}
        for path, tree in trees():
            for node in ast.walk(tree):
                with self.subTest((path.name, getattr(node, "lineno", 0))):
                    self.assertNotIsInstance(node, ast.Import)
                    if isinstance(node, ast.ImportFrom):
                        self.assertIn(node, tree.body)
                        package, module = node.module.split(".")
                        self.assertEqual((package, node.level), ("onepolicy", 0))
                        for name in node.names:
                            self.assertIsNone(name.asname)
                            self.assertIn(name.name, defined[module])

    def test_no_file_imports_itself_by_others(self):
        reach = {path.stem: {node.module.split(".")[1] for node in tree.body if isinstance(node, ast.ImportFrom)}
                 for path, tree in trees()}
        for _ in reach:
            reach = {name: mods.union(*[reach[mod] for mod in mods]) for name, mods in reach.items()}
        for name, mods in reach.items():
            self.assertNotIn(name, mods)

    def test_every_import_is_used(self):
        for path, tree in trees():
            used = {node.id for node in ast.walk(tree) if isinstance(node, ast.Name)}
            for node in tree.body:
                if isinstance(node, ast.ImportFrom):
                    for name in node.names:
                        self.assertIn(name.name, used, path.name)


class Names(unittest.TestCase):
    def test_module_level(self):
        for path, tree in trees():
            names = []
            for at, node in enumerate(tree.body):
                with self.subTest((path.name, node.lineno)):
                    if isinstance(node, ast.Expr):
                        self.assertTrue(at == 0 and isinstance(node.value, ast.Constant))
                        continue
                    self.assertIsInstance(node, (ast.ImportFrom, ast.FunctionDef, ast.ClassDef, ast.Assign))
                    if isinstance(node, ast.ImportFrom):
                        names += [name.name for name in node.names]
                    elif isinstance(node, ast.Assign):
                        self.assertEqual(len(node.targets), 1)
                        names.append(node.targets[0].id)
                    else:
                        names.append(node.name)
            self.assertEqual(len(names), len(set(names)), path.name)

    def test_bound_names(self):
        for path, tree in trees():
            taken = [name.name for node in tree.body if isinstance(node, ast.ImportFrom) for name in node.names]
            taken += [node.name for node in tree.body if isinstance(node, ast.ClassDef)]
            for name in bound_names(tree):
                with self.subTest((path.name, name)):
                    if name in (None, "_"):
                        continue
                    self.assertFalse(name.startswith(BARRED_STARTS))
                    self.assertNotIn(name, BARRED_NAMES)
                    self.assertNotIn(name, BARRED)
                    self.assertFalse(hasattr(builtins, name))
                    self.assertLessEqual(taken.count(name), 1)

    def test_variables_have_no_names_of_imports_and_classes(self):
        for path, tree in trees():
            taken = [name.name for node in tree.body if isinstance(node, ast.ImportFrom) for name in node.names]
            taken += [node.name for node in tree.body if isinstance(node, ast.ClassDef)]
            for function in ast.walk(tree):
                if isinstance(function, ast.FunctionDef):
                    inner = [node.id for node in ast.walk(function)
                             if isinstance(node, ast.Name) and isinstance(node.ctx, ast.Store)]
                    inner += [node.arg for node in ast.walk(function) if isinstance(node, ast.arg)]
                    self.assertEqual([name for name in inner if name in taken], [], (path.name, function.name))

    def test_read_names_are_known(self):
        for path, tree in trees():
            known = set(bound_names(tree)) | set(BUILTINS)
            known |= {name.name for node in tree.body if isinstance(node, ast.ImportFrom) for name in node.names}
            for node in ast.walk(tree):
                if isinstance(node, ast.Name) and isinstance(node.ctx, ast.Load):
                    self.assertIn(node.id, known - {"_"}, (path.name, node.lineno))


class Forms(unittest.TestCase):
    def test_statements_and_expressions(self):
        for path, tree in trees():
            for node in ast.walk(tree):
                with self.subTest((path.name, getattr(node, "lineno", 0))):
                    if isinstance(node, ast.stmt):
                        self.assertIsInstance(node, STATEMENTS)
                    self.assertNotIsInstance(node, (ast.Div, ast.MatMult, ast.Set, ast.Yield, ast.Await))
                    if isinstance(node, ast.Constant):
                        self.assertNotIsInstance(node.value, (float, complex, bytes))
                    if isinstance(node, (ast.FunctionDef, ast.ClassDef)):
                        self.assertEqual(node.decorator_list, [])
                    if isinstance(node, ast.BinOp) and isinstance(node.op, ast.Pow):
                        self.assertIn(node.right.value, range(65))
                    if isinstance(node, ast.Compare) and any(isinstance(op, (ast.Is, ast.IsNot)) for op in node.ops):
                        self.assertIsNone(node.comparators[0].value)

    def test_no_function_is_nested_and_no_class(self):
        for path, tree in trees():
            methods = methods_of(tree)
            for node in ast.walk(tree):
                if isinstance(node, (ast.FunctionDef, ast.ClassDef)):
                    self.assertTrue(node in tree.body or node in methods, (path.name, node.lineno))

    def test_errors_are_made_where_they_are_raised(self):
        errors = ("Misstep", "Wrong", "Unread", "Beyond", "Unfit", "BadText")
        for path, tree in trees():
            for node in ast.walk(tree):
                if isinstance(node, ast.Raise):
                    self.assertIn(node.exc.func.id, errors, (path.name, node.lineno))
                    self.assertIsNone(node.cause)
                if isinstance(node, ast.ExceptHandler):
                    self.assertIn(node.type.id, errors, (path.name, node.lineno))

    def test_sets_and_generators_are_not_used(self):
        for path, tree in trees():
            for node in ast.walk(tree):
                self.assertNotIsInstance(node, (ast.GeneratorExp, ast.SetComp, ast.YieldFrom), path.name)
                if isinstance(node, ast.Call) and isinstance(node.func, ast.Name):
                    self.assertNotIn(node.func.id, ("set", "frozenset", "map", "iter", "next", "eval"), path.name)

    def test_attributes_of_classes(self):
        """No name is a method and an attribute in one class; attributes are assigned in __init__, by local names."""
        builtin = {name for kind in (str, int, list, dict, set, bytes, tuple) for name in dir(kind)}
        for path, tree in trees():
            for kind in [node for node in tree.body if isinstance(node, ast.ClassDef)]:
                methods = [node.name for node in kind.body if isinstance(node, ast.FunctionDef)]
                self.assertEqual(len(methods), len(set(methods)))
                attributes = [node.attr for node in ast.walk(kind)
                              if isinstance(node, ast.Attribute) and isinstance(node.ctx, ast.Store)]
                self.assertFalse(set(methods) & set(attributes), (path.name, kind.name))
                self.assertFalse(set(attributes) & builtin, (path.name, kind.name))
                self.assertFalse(set(methods) & builtin - {"__init__", "copy"}, (path.name, kind.name))
            for node in ast.walk(tree):
                if isinstance(node, ast.Attribute) and isinstance(node.ctx, ast.Store):
                    self.assertIsInstance(node.value, ast.Name, (path.name, node.lineno))

    def test_read_attributes_are_assigned(self):
        made = {"append"}
        for _, tree in trees():
            made |= {node.attr for node in ast.walk(tree) if isinstance(node, ast.Attribute) and isinstance(node.ctx, ast.Store)}
        for path, tree in trees():
            called = [node.func for node in ast.walk(tree) if isinstance(node, ast.Call)]
            for node in ast.walk(tree):
                if isinstance(node, ast.Attribute) and isinstance(node.ctx, ast.Load) and node not in called:
                    self.assertIn(node.attr, made, (path.name, node.lineno))

    def test_what_a_loop_goes_over_is_not_changed_in_it(self):
        changing = ("append", "clear", "extend", "insert", "pop", "remove", "reverse", "setdefault", "update")
        for path, tree in trees():
            for loop in ast.walk(tree):
                if not isinstance(loop, ast.For):
                    continue
                over = ast.unparse(loop.iter)
                for node in ast.walk(loop):
                    changed = []
                    if isinstance(node, ast.Call) and isinstance(node.func, ast.Attribute) and node.func.attr in changing:
                        changed = [node.func.value]
                    elif isinstance(node, (ast.Assign, ast.Delete)):
                        changed = [part.value for part in node.targets if isinstance(part, ast.Subscript)]
                    for part in changed:
                        self.assertNotIn(ast.unparse(part), (over, over.partition("(")[2].rstrip(")")), (path.name, node.lineno))

    def test_methods(self):
        own = [node.name for _, tree in trees() for kind in ast.walk(tree) if isinstance(kind, ast.ClassDef)
               for node in kind.body if isinstance(node, ast.FunctionDef)]
        for path, tree in trees():
            for node in ast.walk(tree):
                if isinstance(node, ast.Call) and isinstance(node.func, ast.Attribute):
                    self.assertIn(node.func.attr, METHODS + own, (path.name, node.lineno))

    def test_what_is_iterated_at_once_is_not_kept(self):
        for path, tree in trees():
            for node in ast.walk(tree):
                if isinstance(node, (ast.Assign, ast.Return)) and isinstance(node.value, ast.Call):
                    name = getattr(node.value.func, "id", getattr(node.value.func, "attr", ""))
                    self.assertNotIn(name, ("zip", "enumerate", "reversed", "items", "keys", "values"), (path.name, node.lineno))

    def test_keywords_are_those_of_sorted(self):
        for path, tree in trees():
            for node in ast.walk(tree):
                if isinstance(node, ast.Call):
                    self.assertLessEqual({word.arg for word in node.keywords}, {"key", "reverse"}, (path.name, node.lineno))

    def test_module_level_values_are_only_read(self):
        for path, tree in trees():
            kept = [node.targets[0].id for node in tree.body
                    if isinstance(node, ast.Assign) and isinstance(node.value, (ast.Dict, ast.List))]
            for node in ast.walk(tree):
                if isinstance(node, ast.Call):
                    self.assertFalse([part for part in node.args if getattr(part, "id", None) in kept], path.name)
                if isinstance(node, (ast.Return, ast.Assign)):
                    self.assertNotIn(getattr(node.value, "id", None), kept, path.name)

    def test_strings(self):
        for path, tree in trees():
            told = [node.body[0].value for node in ast.walk(tree)
                    if isinstance(node, (ast.Module, ast.FunctionDef, ast.ClassDef)) and ast.get_docstring(node)]
            for node in ast.walk(tree):
                if isinstance(node, ast.Constant) and isinstance(node.value, str) and node not in told:
                    self.assertNotIn("%", node.value, path.name)
                    for word in BARRED_WORDS:
                        self.assertNotIn(word, node.value.split(), path.name)

    def test_no_string_ends_as_none_may(self):
        for path in files():
            self.assertEqual(barred_endings(path.read_text()), [], path.name)

    def test_barred_endings_are_found(self):
        for line in ('A = "._"', "A = '-.__'", 'A = """a._"""', 'A = ("a", {"b._": 1})', 'A = "a." "_"', 'A = "a._" "b"',
                     'A = f"{B}._"', 'A = f"a._" "b"', 'A = "a.\\x5f"', '"""Told._"""', 'def a():\n    "Told.__"'):
            self.assertNotEqual(barred_endings(line + "\n"), [], line)
        for line in ('A = "-_."', 'A = "._-"', 'A = "._ "', 'A = "_"', 'A = "a_"', 'A = f"{B}._a"', "A = 1  # ._", 'A = B._c'):
            self.assertEqual(barred_endings(line + "\n"), [], line)

    def test_every_function_but_small_helpers_has_a_docstring(self):
        for path, tree in trees():
            self.assertTrue(ast.get_docstring(tree), path.name)
            for node in tree.body:
                if isinstance(node, (ast.FunctionDef, ast.ClassDef)) and not node.name.startswith("_"):
                    self.assertTrue(ast.get_docstring(node), (path.name, node.name))


class Interface(unittest.TestCase):
    def test_functions_and_their_arguments(self):
        for name, functions in INTERFACE.items():
            module = importlib.import_module("onepolicy." + name)
            for function, arguments in functions.items():
                with self.subTest((name, function)):
                    found = getattr(module, function)
                    self.assertEqual(found.__module__, "onepolicy." + name)
                    self.assertEqual(list(inspect.signature(found).parameters), arguments.split())

    def test_classes_and_their_methods(self):
        for (name, kind), methods in CLASSES.items():
            found = getattr(importlib.import_module("onepolicy." + name), kind)
            self.assertEqual((found.__module__, found.__bases__), ("onepolicy." + name, (object,)))
            for method, arguments in methods.items():
                with self.subTest((name, kind, method)):
                    self.assertIn(method, vars(found))
                    self.assertEqual(list(inspect.signature(vars(found)[method]).parameters), ["self"] + arguments.split())

    def test_defaults(self):
        for (name, kind), methods in CLASSES.items():
            found = inspect.signature(getattr(importlib.import_module("onepolicy." + name), kind))
            defaults = {part.name: part.default for part in found.parameters.values() if part.default is not part.empty}
            self.assertEqual(defaults, {"method": None, "wide": False} if kind == "Reader" else {})

    def test_attributes(self):
        given = {"life": 3, "ground": ("ground", ((167772160, 8),), (3405803777,), 2), "w": 1}
        for (name, kind), attributes in ATTRIBUTES.items():
            found = getattr(importlib.import_module("onepolicy." + name), kind)
            made = found(*[given[part] for part in inspect.signature(found).parameters])
            for attribute in attributes.split():
                self.assertIn(attribute, vars(made))
                self.assertFalse(callable(getattr(made, attribute)))


if __name__ == "__main__":
    unittest.main()
