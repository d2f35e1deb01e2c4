"""The form of the package: the rules of LANGUAGE.md that a test can see."""

import ast
import builtins
import pathlib
import re
import unittest

PACKAGE = pathlib.Path(__file__).parent.parent / "wheelchorus"
FILES = sorted(path for path in PACKAGE.rglob("*") if path.is_file() and "__pycache__" not in path.parts)
TREES = {path.stem: ast.parse(path.read_text()) for path in FILES if path.suffix == ".py"}

BUILTINS = set(
    "len range enumerate zip min max sum abs sorted reversed int str bool list tuple dict set isinstance ord repr any"
    " all divmod iter next super Exception ValueError TypeError KeyError IndexError LookupError ZeroDivisionError"
    " ArithmeticError RuntimeError NotImplementedError NotImplemented property staticmethod classmethod map".split()
)
VALUE_METHODS = set(
    "append clear copy count endswith extend find get index insert isalnum isalpha isdigit islower isspace isupper"
    " items join keys ljust lower lstrip partition pop remove replace reverse rfind rjust rpartition rsplit rstrip"
    " setdefault split splitlines startswith strip update upper values zfill bit_length add discard".split()
)
NO_ATTRIBUTES = set(
    "items keys values pop update append clear extend insert remove reverse setdefault sort args encode decode hex"
    " fromhex format format_map mro".split()
)
NO_NAMES = set(
    "register mro elements open input law version_info attrgetter breakpoint compile copyright credits delattr dir"
    " eval exec exit gc getattr globals hasattr help id importlib license locals methodcaller os quit setattr type"
    " vars sys".split()
)
NO_WORDS = re.compile(
    r"\b(type|typing|typing_extensions|enum|Enum|IntEnum|StrEnum|Flag|IntFlag|Generic|Protocol|ABC|ABCMeta|namedtuple"
    r"|NamedTuple|TypedDict|TYPE_CHECKING|abstractmethod)\b|dataclass|overload|contextmanager|_wall|_WallAttr"
)
SPECIAL = set(
    "__init__ __eq__ __repr__ __str__ __len__ __enter__ __exit__ __call__ __iter__ __contains__ __bool__ __or__"
    " __and__ __sub__ __rshift__".split()
)
CHANGING_METHODS = set("append clear extend insert pop remove reverse setdefault sort update add discard".split())
CHANGING_SPECIAL = {"__init__", "__call__", "__enter__", "__exit__"}
AT_ONCE = set("list tuple dict sorted sum any all enumerate zip min max".split())


def nodes(kinds, tree=None):
    trees = TREES.values() if tree is None else [tree]
    return [node for one in trees for node in ast.walk(one) if isinstance(node, kinds)]


def parents(tree):
    return {child: node for node in ast.walk(tree) for child in ast.iter_child_nodes(node)}


def is_call_of(node, names):
    return isinstance(node, ast.Call) and isinstance(node.func, ast.Name) and node.func.id in names


def is_set(node):
    return isinstance(node, (ast.Set, ast.SetComp)) or is_call_of(node, {"set"})


def local_names(function):
    names = {argument.arg for argument in ast.walk(function.args) if isinstance(argument, ast.arg)}
    return names | {node.id for node in nodes(ast.Name, function) if isinstance(node.ctx, ast.Store)}


def class_parts(node):
    """The methods, the properties and the attributes of self of a class."""
    functions = [one for one in node.body if isinstance(one, ast.FunctionDef)]
    properties = {one.name for one in functions if one.decorator_list}
    attributes = {
        one.attr for one in nodes(ast.Attribute, node)
        if isinstance(one.ctx, ast.Store) and isinstance(one.value, ast.Name) and one.value.id == "self"
    }
    return {one.name for one in functions} - properties, properties, attributes


def changes_in(node):
    """What is assigned, deleted or changed by a method: attributes, items, and what a method changes by its name."""
    stores = (ast.Store, ast.Del)
    found = [one for one in nodes((ast.Attribute, ast.Subscript), node) if isinstance(one.ctx, stores)]
    for call in nodes(ast.Call, node):
        if isinstance(call.func, ast.Attribute) and call.func.attr in CHANGING_METHODS:
            found.append(call.func.value)
    return found


def own_functions():
    """All functions and methods by their names; behind the name of a class stands its __init__."""
    found = {}
    for node in nodes(ast.FunctionDef):
        found.setdefault(node.name, []).append(node)
    for node in nodes(ast.ClassDef):
        found.setdefault(node.name, []).extend([
            one for one in node.body if isinstance(one, ast.FunctionDef) and one.name == "__init__"])
    return found


def reached_from(roots):
    """These functions, and all that could be meant by the names which they call."""
    own = own_functions()
    reached = list(roots)
    for function in reached:
        for call in nodes(ast.Call, function):
            name = call.func.id if isinstance(call.func, ast.Name) else getattr(call.func, "attr", None)
            reached.extend([one for one in own.get(name, []) if one not in reached])
    return reached


class FilesTest(unittest.TestCase):
    def test_files(self):
        self.assertLessEqual(len(FILES), 100)
        for path in FILES:
            self.assertRegex(path.name, r"\A(__init__|[a-z][a-z0-9_]*)\.py\Z")
            self.assertEqual(path.parent, PACKAGE)

    def test_sizes_and_characters(self):
        for path in FILES:
            text = path.read_text()
            self.assertRegex(text, r"\A[ -~\n]*\Z", path)
            lines = text.split("\n")
            self.assertLessEqual(len(lines), 399, path)
            self.assertLessEqual(max(map(len, lines)), 120, path)
        for function in nodes(ast.FunctionDef):
            self.assertLessEqual(function.end_lineno - function.lineno + 1, 40, function.name)

    def test_module_level(self):
        for name, tree in TREES.items():
            for at, node in enumerate(tree.body):
                if at == 0:
                    self.assertIsNotNone(ast.get_docstring(tree), name)
                    continue
                self.assertIsInstance(node, (ast.ImportFrom, ast.FunctionDef, ast.ClassDef, ast.Assign), name)
                if isinstance(node, ast.Assign):
                    # It raises an error for what is no plain value.
                    ast.literal_eval(node.value)

    def test_imports(self):
        needs = {}
        for name, tree in TREES.items():
            needs[name] = set()
            self.assertEqual(nodes(ast.Import, tree), [])
            for node in nodes(ast.ImportFrom, tree):
                self.assertIn(node, tree.body)
                package, _, module = node.module.partition(".")
                self.assertEqual((package, node.level), ("wheelchorus", 0))
                needs[name].add(module)
                bound = set()
                for one in TREES[module].body:
                    bound |= {one.name} if isinstance(one, (ast.FunctionDef, ast.ClassDef)) else set()
                    bound |= {one.targets[0].id} if isinstance(one, ast.Assign) else set()
                for alias in node.names:
                    self.assertIn(alias.name, bound)
                    self.assertIsNone(alias.asname)
        while needs:
            free = [name for name in needs if not needs[name] & set(needs)]
            self.assertTrue(free, "modules import from each other")
            for name in free:
                del needs[name]


class NamesTest(unittest.TestCase):
    def test_names(self):
        for name, tree in TREES.items():
            imported = {alias.name for node in nodes(ast.ImportFrom, tree) for alias in node.names}
            classes = {node.name for node in nodes(ast.ClassDef, tree)}
            bound = imported | classes | {node.name for node in nodes(ast.FunctionDef, tree)}
            bound |= {one.targets[0].id for one in tree.body if isinstance(one, ast.Assign)}
            for function in nodes(ast.FunctionDef, tree):
                own = local_names(function)
                self.assertEqual(own & (imported | classes), set(), function.name)
                self.assertEqual(own & set(dir(builtins)), set(), function.name)
                bound |= own
            bound |= {node.id for node in nodes(ast.Name, tree) if isinstance(node.ctx, ast.Store)}
            bound |= {node.name for node in nodes(ast.ExceptHandler, tree) if node.name is not None}
            used = {node.id for node in nodes(ast.Name, tree) if isinstance(node.ctx, ast.Load)}
            self.assertEqual(used - bound - BUILTINS, set(), name)
            self.assertNotIn("_", used)
            for one in bound:
                self.assertRegex(one, r"\A([A-Za-z][A-Za-z0-9_]*|_[a-z][a-z0-9_]*|_|__\w+__)\Z")
                self.assertNotIn(one, NO_NAMES)

    def test_double_underscores(self):
        for function in nodes(ast.FunctionDef):
            if function.name.startswith("__"):
                self.assertIn(function.name, SPECIAL)
        for node in nodes(ast.Attribute):
            if node.attr.startswith("__"):
                self.assertEqual((node.attr, is_call_of(node.value, {"super"})), ("__init__", True))

    def test_methods_and_attributes(self):
        families = {node.name: class_parts(node) for node in nodes(ast.ClassDef)}
        bases = {node.name: [base.id for base in node.bases] for node in nodes(ast.ClassDef)}
        all_properties = set().union(*[properties for _, properties, _ in families.values()])
        all_attributes = set().union(*[attributes for _, _, attributes in families.values()])
        all_methods = set().union(*[methods for methods, _, _ in families.values()])
        self.assertEqual(all_properties & all_attributes, set())
        self.assertEqual(all_properties & all_methods, set())
        self.assertEqual(all_attributes & NO_ATTRIBUTES, set())
        generators = {
            one.name for node in nodes(ast.ClassDef) for one in node.body
            if isinstance(one, ast.FunctionDef) and nodes((ast.Yield, ast.YieldFrom), one)
        }
        self.assertEqual(generators & all_attributes, set())
        for name, (methods, _, attributes) in families.items():
            for base in [name] + bases[name]:
                if base in families:
                    self.assertEqual(methods & families[base][2], set(), name)
                    self.assertEqual(attributes & families[base][0], set(), name)
        for node in nodes(ast.Attribute):
            if isinstance(node.ctx, ast.Store):
                self.assertNotIn(node.attr, all_properties)
        # What is called on a value is an own method or one of those that values have.
        for call in nodes(ast.Call):
            if isinstance(call.func, ast.Attribute):
                self.assertIn(call.func.attr, all_methods | VALUE_METHODS)

    def test_no_word_that_may_not_stand(self):
        for path in FILES:
            self.assertIsNone(NO_WORDS.search(path.read_text()), path)


class ExpressionsTest(unittest.TestCase):
    def test_what_does_not_stand(self):
        kinds = (ast.Global, ast.AsyncFunctionDef, ast.Await, ast.Div, ast.AnnAssign)
        self.assertEqual(nodes(kinds), [])
        for call in nodes(ast.Call):
            if is_call_of(call, {"any", "all", "min", "max", "sum", "sorted"}):
                self.assertFalse([one for one in call.args if isinstance(one, ast.GeneratorExp)], ast.dump(call))
        for node in nodes(ast.Constant):
            self.assertIsInstance(node.value, (int, str, type(None)))
            if isinstance(node.value, str):
                self.assertNotIn("%", node.value)
        for path in FILES:
            self.assertEqual(re.findall(r"\\[^n\\\"']", path.read_text()), [])

    def test_no_annotations_and_only_properties(self):
        for function in nodes(ast.FunctionDef):
            self.assertIsNone(function.returns)
            self.assertEqual([argument.annotation for argument in nodes(ast.arg, function)
                              if argument.annotation is not None], [])
            for decorator in function.decorator_list:
                self.assertEqual(decorator.id, "property")
        for node in nodes(ast.ClassDef):
            self.assertEqual(node.decorator_list, [])

    def test_is(self):
        for node in nodes(ast.Compare):
            for operator, right in zip(node.ops, node.comparators):
                if isinstance(operator, (ast.Is, ast.IsNot)):
                    self.assertIn(right.value, (None, True, False))

    def test_raise_and_try(self):
        for node in nodes(ast.Raise):
            self.assertIsInstance(node.exc, ast.Call)
            self.assertIsInstance(node.exc.func, ast.Name)
        own = {one.name for one in TREES["errors"].body if isinstance(one, ast.ClassDef)}
        for node in nodes(ast.ExceptHandler):
            self.assertIn(node.type.id, own)

    def test_sets_stand_where_they_may(self):
        for tree in TREES.values():
            above = parents(tree)
            for node in [one for one in ast.walk(tree) if is_set(one)]:
                place = above[node]
                while isinstance(place, ast.BinOp):
                    place = above[place]
                self.assertTrue(is_call_of(place, {"sorted", "len"}) and not place.keywords, ast.dump(node))

    def test_ranges_and_views_are_iterated_at_once(self):
        for tree in TREES.values():
            above = parents(tree)
            for node in ast.walk(tree):
                is_view = isinstance(node, ast.Call) and isinstance(node.func, ast.Attribute) and (
                    node.func.attr in ("items", "keys", "values"))
                if not is_view and not is_call_of(node, {"range", "zip", "enumerate", "reversed"}):
                    continue
                place = above[node]
                kept = isinstance(place, ast.Assign) and is_call_of(node, {"range"})
                at_once = isinstance(place, (ast.For, ast.comprehension)) and place.iter is node
                self.assertTrue(kept or at_once or is_call_of(place, AT_ONCE), ast.dump(node))

    def test_own_generators_are_iterated_at_once(self):
        functions = nodes(ast.FunctionDef)
        generators = [one.name for one in functions if nodes((ast.Yield, ast.YieldFrom), one)]
        names = set(generators)
        self.assertIn("leaves", names)
        # No other function has a generator's name; the interface itself has two generators called ticks.
        self.assertEqual(sorted(one.name for one in functions if one.name in names), sorted(generators))
        self.assertEqual([name for name in generators if generators.count(name) > 1], ["ticks", "ticks"])
        for tree in TREES.values():
            above = parents(tree)
            for call in nodes(ast.Call, tree):
                word = call.func.id if isinstance(call.func, ast.Name) else getattr(call.func, "attr", None)
                if word not in names:
                    continue
                place = above[call]
                looped = isinstance(place, (ast.For, ast.comprehension)) and place.iter is call
                self.assertTrue(looped or isinstance(place, ast.YieldFrom) or is_call_of(place, AT_ONCE), word)

    def test_keywords_of_builtins(self):
        known = {"sorted": {"key", "reverse"}, "min": {"key", "default"}, "max": {"key", "default"},
                 "sum": {"start"}, "enumerate": {"start"}, "zip": {"strict"}}
        for call in nodes(ast.Call):
            if isinstance(call.func, ast.Name) and call.func.id in BUILTINS:
                self.assertLessEqual({word.arg for word in call.keywords}, known.get(call.func.id, set()))

    def test_properties_change_nothing(self):
        for node in nodes(ast.ClassDef):
            for function in node.body:
                if not isinstance(function, ast.FunctionDef):
                    continue
                if not function.decorator_list and function.name not in SPECIAL - CHANGING_SPECIAL:
                    continue
                stores = [one for one in nodes((ast.Attribute, ast.Subscript), function)
                          if isinstance(one.ctx, ast.Store)]
                self.assertEqual(stores + nodes(ast.AugAssign, function), [], function.name)

    def test_what_is_read_or_compared_calls_nothing_that_changes(self):
        roots = [one for node in nodes(ast.ClassDef) for one in node.body if isinstance(one, ast.FunctionDef)
                 and (one.decorator_list or one.name in SPECIAL - CHANGING_SPECIAL)]
        self.assertIn("__eq__", [one.name for one in roots])
        own = own_functions()
        for function in reached_from(roots):
            # What stands in a local variable was made by the function; an __init__ sets what is its own.
            changed = [one for one in changes_in(function) if not isinstance(one, ast.Name)]
            if function.name == "__init__":
                changed = [one for one in changed if not isinstance(one.value, ast.Name) or one.value.id != "self"]
            self.assertEqual([ast.unparse(one) for one in changed], [], function.name)
            for call in nodes(ast.Call, function):
                # Nothing that is passed or held is called, neither a parameter nor an item.
                self.assertIsInstance(call.func, (ast.Name, ast.Attribute), function.name)
                if isinstance(call.func, ast.Name):
                    self.assertIn(call.func.id, set(own) | BUILTINS, function.name)

    def test_no_loop_changes_what_an_object_is_iterated_over_by(self):
        walked = {one.attr for function in own_functions()["__iter__"] for one in nodes(ast.Attribute, function)}
        self.assertIn("_book_rows", walked)
        for loop in nodes((ast.For, ast.ListComp, ast.DictComp, ast.SetComp, ast.GeneratorExp)):
            iterated = [loop.iter] if isinstance(loop, ast.For) else [one.iter for one in loop.generators]
            if all([is_call_of(one, {"range", "list"}) for one in iterated]):
                continue
            changed = [one for change in changes_in(loop) for one in nodes(ast.Attribute, change)]
            self.assertEqual([ast.unparse(one) for one in changed if one.attr in walked], [], ast.unparse(loop))


if __name__ == "__main__":
    unittest.main()
