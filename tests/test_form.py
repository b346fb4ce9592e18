"""The form of the package's files, as far as a test can see it, and the names of the interface."""

import ast
import inspect
import pathlib
import re
import sys
import unittest

import mintlots
from mintlots import (backs, calls, certificates, checker, console, counters, desks, lengths, lots, naming, partings, payments,
                      pots, purses, queues, singles, swaps, views)

FOLDER = pathlib.Path(mintlots.__file__).parent
FILES = sorted(path for path in FOLDER.rglob("*") if path.is_file() and "__pycache__" not in path.parts)

BUILTINS = set("""len range enumerate zip min max sum abs sorted reversed int str bool bytes list tuple dict set
frozenset isinstance ord repr any all divmod Exception ValueError TypeError KeyError IndexError LookupError ZeroDivisionError
ArithmeticError OverflowError RuntimeError NotImplementedError AttributeError StopIteration NotImplemented
iter next map super property classmethod staticmethod""".split())
LIBRARY = {
    "heapq": set("heappush heappop heapify heapreplace heappushpop".split()),
    "math": set("gcd lcm isqrt comb perm factorial".split()),
    "itertools": set("product combinations permutations".split()),
}
METHODS = set("""append clear copy count endswith extend find get index insert isalnum isalpha isdigit islower isspace
isupper items join keys ljust lower lstrip partition pop remove replace reverse rfind rjust rpartition rsplit rstrip
setdefault split splitlines startswith strip update upper values zfill bit_length add discard isdecimal""".split())
TAKE_LISTS = set("any all min max sum sorted".split())
BARRED = set("""register mro elements open input law version_info attrgetter breakpoint builtins compile copyright credits
delattr dir eval exec exit gc getattr globals hasattr help id importlib license locals methodcaller os quit setattr
super type vars sys typing enum sort""".split())
DECORATORS = set("property classmethod staticmethod".split())

INTERFACE = {
    lots: "divisor(lot) lean(lot) is_paid(lot,amount) least_sums(lot,coin) missed(lot) count_missed(lot) "
          "last_missed(lot) pay_alike(one,other) first_unlike(one,other) is_within(one,other) joined(one,other)",
    payments: "count_payments(lot,small) payments(lot,small) nth_payment(lot,small,index) place_of(lot,payment) "
              "first_payment(lot,amount) last_payment(lot,amount) great_count(lot,amount)",
    singles: "few_sums(lot,ways) single_sums(lot) last_single(lot) is_single(lot,payment) other_payment(lot,payment)",
    swaps: "swaps(lot) swap_at(lot,payment) swapped(lot,payment,swap) way(lot,payment,goal)",
    lengths: "least(lot,amount) most(lot,amount) least_payment(lot,amount) most_payment(lot,amount) "
             "lengths(lot,small) length_step(lot) stretch(lot) losses(lot) gains(lot) lag(one,other)",
    backs: "least_moved(lot,price) least_deal(lot,price) moved_losses(lot) worst_rests(lot)",
    purses: "as_text(purse) from_text(text) held(purse) ways_held(purse,amount) is_full(purse,lost) gap(purse,lost) "
            "best_whole(pieces,lost) best_purse(pieces,lost) fewest_pieces(whole,lost) count_full(whole,pieces,lost) "
            "full_purses(whole,pieces,lost) may_come(purse,lost)",
    pots: "pot(buyer,seller) prices(buyer,seller) ways_to_settle(buyer,seller,price) settles_all(buyer,seller,lost) "
          "reach(buyer,seller) deal_for(buyer,seller,price) behind(buyer,seller,deal)",
    queues: "passes(till,queue) plan(till,queue) tills(till,queue) orders(till,queue) stuck(till,queue)",
    partings: "even_partings(purse,hands) count_even(purse,hands) least_difference(purse) full_parting(purse,hands) "
              "most_hands(purse)",
    naming: "is_won(stand) good_names(stand) end(stand) is_quiet(stand) named(stand,names) game(stand)",
    views: "sound_lots() is_sound(lot) fitting(view) can_be(view) sure(view,small) next_sum(view)",
    calls: "called_in(lot,coin) lost_sums(lot,coin) struck(lot,coin) gained_sums(lot,coin) kept_lots(lot,amounts) "
           "calling_orders(lot,amounts) strikes(lot,least,start)",
    desks: "played(log)",
    checker: "accepts(claim,paper)",
    certificates: "certify_paid(lot,amount) certify_last(lot) certify_ways(lot,small) certify_least(lot,amount) "
                  "certify_most(lot,amount) certify_lag(one,other) certify_moved(lot,price) certify_full(purse,lost) "
                  "certify_price(buyer,seller,price) certify_stand(stand) certify_quiet(stand) certify_fit(view,lot) "
                  "certify_sure(view,small) certify_kept(lot,amounts,some)",
}

# For each class its parameters, its methods and its properties.
CLASSES = {
    lots.Lot: ("coins", "read(text)", "coins"),
    views.View: ("tellings", "more(telling)", "tellings"),
    counters.Counter: ("buyer,seller", "settle(deal) pay(price) swap() put(piece) lose(piece) undo() trial() tried(action)",
                       "buyer seller changes"),
    desks.Desk: ("", "put(name,thing) named(name) drop(name) promise(wish) lift(index) undo() trial() tried(action)",
                 "names promises changes log"),
    console.Console: ("buyer,seller", "say(command)", "counter"),
}


def tree_of(path):
    return ast.parse(path.read_text(encoding="utf-8"))


def bound_names(tree):
    """All names that a file binds, at module level or within."""
    names = set()
    for node in ast.walk(tree):
        if isinstance(node, (ast.FunctionDef, ast.ClassDef)):
            names.add(node.name)
        elif isinstance(node, ast.alias):
            names.add(node.asname or node.name)
        elif isinstance(node, ast.arg):
            names.add(node.arg)
        elif isinstance(node, ast.Name) and not isinstance(node.ctx, ast.Load):
            names.add(node.id)
    return names


def each_node():
    """Each node of each file, with the file's name."""
    for path in FILES:
        for node in ast.walk(tree_of(path)):
            yield path.name, node


class FormTest(unittest.TestCase):
    def test_only_plain_files(self):
        for path in FILES:
            self.assertRegex(path.name, r"\A[a-z0-9_]+\.py\Z")
        self.assertIn(FOLDER / "__init__.py", FILES)

    def test_lines(self):
        for path in FILES:
            text = path.read_text(encoding="utf-8")
            self.assertIsNone(re.search(r"[^ -~\n]", text), path)
            lines = text.split("\n")
            self.assertLessEqual(len(lines), 399, path)
            self.assertLessEqual(max(map(len, lines)), 120, path)

    def test_small_functions(self):
        for name, node in each_node():
            if isinstance(node, ast.FunctionDef):
                self.assertLessEqual(node.end_lineno - node.lineno + 1, 40, (name, node.name))

    def test_imports(self):
        for name, node in each_node():
            self.assertNotIsInstance(node, ast.Import, name)
            if isinstance(node, ast.ImportFrom):
                self.assertEqual(node.level, 0)
                names = {alias.name for alias in node.names}
                if node.module in LIBRARY:
                    self.assertLessEqual(names, LIBRARY[node.module])
                    continue
                self.assertTrue(node.module.startswith("mintlots."), (name, node.module))
                source = FOLDER / (node.module.split(".")[1] + ".py")
                defined = {part.name for part in tree_of(source).body
                           if isinstance(part, (ast.FunctionDef, ast.ClassDef))}
                defined |= {part.targets[0].id for part in tree_of(source).body if isinstance(part, ast.Assign)}
                self.assertLessEqual(names, defined, name)

    def test_imports_are_used(self):
        for path in FILES:
            tree = tree_of(path)
            told = {alias.name for node in ast.walk(tree) if isinstance(node, ast.ImportFrom) for alias in node.names}
            used = {node.id for node in ast.walk(tree) if isinstance(node, ast.Name)}
            self.assertLessEqual(told, used, path)

    def test_names(self):
        known = set(dir(__import__("builtins")))
        for path in FILES:
            tree = tree_of(path)
            bound = bound_names(tree)
            self.assertEqual(bound & known, set(), path)
            read = {node.id for node in ast.walk(tree) if isinstance(node, ast.Name) and isinstance(node.ctx, ast.Load)}
            self.assertLessEqual(read - bound, BUILTINS, path)

    def test_no_name_hides_an_import_or_a_class(self):
        for path in FILES:
            tree = tree_of(path)
            told = {alias.name for node in ast.walk(tree) if isinstance(node, ast.ImportFrom) for alias in node.names}
            told |= {node.name for node in ast.walk(tree) if isinstance(node, ast.ClassDef)}
            local = {node.arg for node in ast.walk(tree) if isinstance(node, ast.arg)}
            local |= {node.id for node in ast.walk(tree)
                      if isinstance(node, ast.Name) and not isinstance(node.ctx, ast.Load)}
            self.assertEqual(told & local, set(), path)

    def test_barred_words(self):
        for path in FILES:
            for word in bound_names(tree_of(path)):
                self.assertNotIn(word, BARRED, path)

    def test_methods(self):
        own = {node.name for _, node in each_node() if isinstance(node, ast.FunctionDef)}
        for name, node in each_node():
            if isinstance(node, ast.Call) and isinstance(node.func, ast.Attribute):
                self.assertIn(node.func.attr, METHODS | own, name)

    def test_expressions(self):
        for name, node in each_node():
            self.assertNotIsInstance(node, (ast.Div, ast.Global, ast.AsyncFunctionDef, ast.Await), name)
            if isinstance(node, ast.Constant):
                self.assertNotIsInstance(node.value, (float, complex), name)
                if isinstance(node.value, str):
                    self.assertNotIn("%", node.value, name)
            if isinstance(node, ast.BinOp) and isinstance(node.op, ast.Pow):
                self.assertIsInstance(node.right, ast.Constant, name)
            if isinstance(node, ast.Compare):
                for sign, right in zip(node.ops, node.comparators):
                    if isinstance(sign, (ast.Is, ast.IsNot)):
                        self.assertIsInstance(right, ast.Constant, name)
            if isinstance(node, ast.Call) and isinstance(node.func, ast.Name) and node.func.id in TAKE_LISTS:
                self.assertNotIsInstance(node.args[0], ast.GeneratorExp, name)
            if isinstance(node, (ast.FunctionDef, ast.ClassDef)):
                for decorator in node.decorator_list:
                    self.assertIn(decorator.id, DECORATORS, name)

    def test_module_level(self):
        for path in FILES:
            for at, node in enumerate(tree_of(path).body):
                if at == 0:
                    self.assertIsInstance(node, ast.Expr, path)
                    continue
                self.assertIsInstance(node, (ast.ImportFrom, ast.FunctionDef, ast.ClassDef, ast.Assign), path)


class TablesTest(unittest.TestCase):
    def test_tables_have_plain_values_and_functions_of_their_file(self):
        for path in FILES:
            tree = tree_of(path)
            functions = {part.name: part.lineno for part in tree.body if isinstance(part, ast.FunctionDef)}
            for part in tree.body:
                if isinstance(part, ast.Assign):
                    for node in ast.walk(part.value):
                        self.assertNotIsInstance(node, (ast.Call, ast.Attribute, ast.Subscript, ast.Set), path)
                        if isinstance(node, ast.Name):
                            self.assertLess(functions[node.id], part.lineno, path)

    def test_tables_are_only_read(self):
        for path in FILES:
            tree = tree_of(path)
            tables = {part.targets[0].id for part in tree.body
                      if isinstance(part, ast.Assign) and isinstance(part.value, (ast.Dict, ast.List))}
            above = {child: node for node in ast.walk(tree) for child in ast.iter_child_nodes(node)}
            for node in above:
                if isinstance(node, ast.Name) and node.id in tables and isinstance(node.ctx, ast.Load):
                    use = above[node]
                    self.assertIsInstance(use, (ast.Subscript, ast.Compare, ast.Attribute), path)
                    if isinstance(use, ast.Attribute):
                        self.assertEqual(use.attr, "get", path)

    def test_trials_end_plainly(self):
        found = [node for path in FILES for node in ast.walk(tree_of(path))
                 if isinstance(node, ast.FunctionDef) and node.name == "__exit__"]
        self.assertEqual(len(found), 1)
        for node in ast.walk(found[0]):
            self.assertNotIsInstance(node, (ast.Call, ast.Subscript, ast.BinOp, ast.For, ast.While, ast.Try))


class RowsTest(unittest.TestCase):
    def test_caught_errors_are_own_ones(self):
        own = {part.name for part in tree_of(FOLDER / "errors.py").body if isinstance(part, ast.ClassDef)}
        for name, node in each_node():
            if isinstance(node, ast.ExceptHandler):
                told = node.type.elts if isinstance(node.type, ast.Tuple) else [node.type]
                self.assertLessEqual({one.id for one in told}, own, name)
            if isinstance(node, ast.Raise):
                self.assertIn(node.exc.func.id, own, name)

    def test_what_is_iterated_at_once(self):
        lazy = {"zip", "enumerate", "reversed", "range"}
        for path in FILES:
            tree = tree_of(path)
            above = {child: node for node in ast.walk(tree) for child in ast.iter_child_nodes(node)}
            for node in above:
                if not isinstance(node, ast.Call):
                    continue
                plain = isinstance(node.func, ast.Name) and node.func.id in lazy
                view = isinstance(node.func, ast.Attribute) and node.func.attr in ("items", "values", "keys")
                if not plain and not view:
                    continue
                use = above[node]
                if isinstance(use, (ast.For, ast.comprehension)):
                    self.assertIs(use.iter, node)
                    continue
                self.assertIsInstance(use, ast.Call, path)
                self.assertIn(use.func.id, ("list", "tuple", "enumerate"), path)

    def test_barred_words_stand_nowhere(self):
        words = re.compile(r"\b(typ[e]|typing|enum|Flag|Protocol|ABC|namedtuple|abstractmethod)\b")
        for path in FILES:
            for node in ast.walk(tree_of(path)):
                if isinstance(node, (ast.Name, ast.Attribute, ast.arg, ast.keyword)):
                    told = [getattr(node, key, None) for key in ("id", "attr", "arg")]
                    self.assertFalse(any(word and words.fullmatch(word) for word in told), path)

    def test_names_are_plain(self):
        allowed = {"__init__", "__eq__", "__str__", "__len__", "__bool__", "__enter__", "__exit__"}
        for name, node in each_node():
            if isinstance(node, (ast.FunctionDef, ast.ClassDef)):
                self.assertTrue(node.name in allowed or re.fullmatch(r"_?[A-Za-z][A-Za-z0-9_]*", node.name), name)
                if not node.name.startswith("_"):
                    self.assertIsNotNone(ast.get_docstring(node), (name, node.name))


def names_and_parameters(told):
    """Each name in a text, with the list of its parameters."""
    pairs = [text[:-1].split("(") for text in told.split()]
    return [(name, rest.split(",") if rest else []) for name, rest in pairs]


class InterfaceTest(unittest.TestCase):
    def check_parameters(self, function, known):
        parameters = inspect.signature(function).parameters.values()
        self.assertEqual([one.name for one in parameters], known)
        self.assertLessEqual({one.kind for one in parameters}, {inspect.Parameter.POSITIONAL_OR_KEYWORD})

    def test_functions_and_their_parameters(self):
        for module, told in INTERFACE.items():
            for name, known in names_and_parameters(told):
                function = vars(module)[name]
                with self.subTest(name=name):
                    self.assertTrue(inspect.isfunction(function))
                    self.assertEqual(function.__module__, module.__name__)
                    self.check_parameters(function, known)

    def test_classes_with_their_own_methods(self):
        for one, (told, methods, properties) in CLASSES.items():
            own = vars(one)
            with self.subTest(one=one):
                self.assertEqual(vars(sys.modules[one.__module__])[one.__name__], one)
                self.check_parameters(one, told.split(",") if told else [])
                for name, known in names_and_parameters(methods):
                    kind = "classmethod" if name == "read" else "function"
                    self.assertEqual(type(own[name]).__name__, kind)
                    self.check_parameters(own[name].__func__ if kind == "classmethod" else own[name],
                                          ["cls" if kind == "classmethod" else "self"] + known)
                for name in properties.split():
                    self.assertIsInstance(own[name], property)
                    self.assertIsNone(own[name].fset)


if __name__ == "__main__":
    unittest.main()
