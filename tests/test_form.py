"""The interface of the document, and rules of the form of the code that can be read off its files."""

import ast
import importlib
import inspect
import unittest
from pathlib import Path

PACKAGE = Path(__file__).resolve().parent.parent / "twicedial"
FILES = sorted(PACKAGE.rglob("*.py"))

INTERFACE = {
    "places": ["check_place(value)", "place(top, bottom)", "double(x)", "halves(x)", "mirrored(x)", "orbit(x)",
               "way_in(x)", "period(x)", "returns(x)", "places(ahead, again)"],
    "digitwords": ["digits(x)", "place_of(head, cycle)"],
    "placetexts": ["written(x)", "read_place(text)"],
    "arcs": ["arc(a, b)", "is_within(a, x, b)", "chord(a, b)", "chord_length(chord)", "cross(c, d)",
             "chord_orbit(chord)"],
    "members": ["gaps(members)", "gap_at(members, x)", "led(members)", "keeps_order(members)",
                "are_apart(members, others)"],
    "rowforms": ["least_row(head, cycle)", "first_mark(row)", "shifted(row)"],
    "marks": ["mark(t, x)", "plain_row(t, x)", "kneading(t)", "star_word(t)"],
    "inner": ["is_greater(t)", "inner_mark(t, x)", "inner_row(t, x)", "are_joined(t, x, y)", "parting(t, x, y)"],
    "turns": ["turning_set(p, q)", "turning_pair(p, q)", "line_digits(p, q)", "turning_number(t)",
              "turning_widths(most)", "between_turns(t, u)"],
    "words": ["check_word(value)", "star_words(count)", "next_unlike(marks, m)", "address(marks)",
              "word_of_address(numbers)", "upper_mark(word)"],
    "ties": ["class_of(t, x)", "ties(t, ahead, again)", "knot(t)", "fixed_class(t)", "fixed_period(t)"],
    "tying": ["pairs(again)", "partner(t)", "pair_of(t)", "check_pair(value)", "pair_period(pair)", "is_hung(pair)",
              "pair_width(pair)"],
    "leastchords": ["is_least_chord(chord)"],
    "before": ["is_before(pair, t)", "pairs_before(t, most)", "meeting(t, u, most)", "pair_tree(most)", "way_to(t)"],
    "portraits": ["portrait_breach(value)", "check_portrait(value)", "arcs_of(portrait)", "least_arc(portrait)",
                  "portrait_of(pair)", "ray_count(pair)", "class_count(pair)"],
    "knotgaps": ["knot_gaps(t)"],
    "lets": ["failing(word)", "is_let(word)", "denominators(word)", "place_count(word)", "places_of(word)"],
    "copies": ["copied(pair, x)", "original(pair, y)", "copied_word(word, other)", "copied_pair(pair, other_pair)",
               "bases(pair)"],
    "angled": ["angled_address(t)", "pair_at(angled)"],
    "middles": ["rounds(word)", "middle(word, r, s, u)", "is_between(word, r, v, s)"],
    "trees": ["tree_of_word(word)", "arms(tree, i)", "path(tree, i, j)", "arm_led(tree, i, j)", "tree_text(tree)"],
    "corners": ["corner_period(tree, i)", "evil_corners(tree)", "corner_places(t)"],
    "tables": ["way_table(tree)", "pair_table(word)", "path_table(tree)"],
    "growth": ["polynomial(table)", "compare_growth(f, g)", "growth_floor(f, bits)", "growth_polynomial(word)"],
    "sewing": ["sewn_class(t, u, x)", "ring_places(t, u, again)", "sewn_count(t, u, again)", "is_barred(t, u)",
               "mirrored_pair(pair)"],
    "middleline": ["folded(x)", "is_on_line(t)", "is_middle_pair(pair)", "middle_pairs(again)"],
    "middlewords": ["turned_order(r, s)", "is_middle_word(word)", "middle_words(count)", "middle_count(count)",
                    "middle_place(word)", "is_forced(word, other)"],
    "periodorder": ["is_ahead(m, n)", "order_of_periods(most)", "least_word(count)", "forced_periods(word, most)"],
    "laps": ["line_table(word)", "line_polynomial(word)", "lap_counts(word, most)"],
    "knots": ["knots(ahead, again)", "vein(t, most)", "vein_widths(t, most)", "is_end(t)"],
    "forks": ["records(t, most)", "fork(t, u, most)", "limb_in(pair, u)"],
    "deeds": ["done(x, deed)", "all_done(x, deeds)"],
    "desks": ["Desk(place, *, most=20)"],
}
DESK = {"do": ["deed"], "undo": [], "redo": [], "past": [], "ahead": [], "run": ["deeds"], "twin": [], "trial": []}
LIBRARY = {"math": {"gcd", "lcm", "isqrt", "comb", "perm", "factorial"},
           "itertools": {"product", "combinations", "permutations", "chain", "accumulate", "pairwise", "islice",
                         "zip_longest"},
           "heapq": {"heappush", "heappop", "heapify", "heapreplace", "heappushpop"},
           "collections": {"defaultdict", "deque"}}
BUILTINS = set(dir(__builtins__) if inspect.ismodule(__builtins__) else __builtins__)
ALLOWED = set("""len range enumerate zip min max sum abs sorted reversed int str bool bytes list tuple dict set frozenset
isinstance ord repr any all divmod pow getattr hasattr setattr iter next map super type property staticmethod
classmethod Exception ValueError TypeError KeyError IndexError LookupError ZeroDivisionError ArithmeticError
OverflowError RuntimeError NotImplementedError AttributeError StopIteration NotImplemented""".split())
METHODS = set("""append clear copy count endswith extend find get index insert isalnum isalpha isdigit islower isspace
isupper items join keys ljust lower lstrip partition pop remove replace reverse rfind rjust rpartition rsplit rstrip
setdefault split splitlines startswith strip update upper values zfill bit_length sort add discard __init__""".split())


def parsed(path):
    return ast.parse(path.read_text(encoding="utf-8"))


def imported(tree):
    """The module and the names of each import."""
    return [(node.module, [name.name for name in node.names]) for node in ast.walk(tree)
            if isinstance(node, ast.ImportFrom)]


def bound(function):
    """All names that a function assigns or takes."""
    names = {node.arg for node in ast.walk(function) if isinstance(node, ast.arg)}
    stored = [node for node in ast.walk(function) if isinstance(node, ast.Name)]
    return names | {node.id for node in stored if isinstance(node.ctx, ast.Store)}


class Interface(unittest.TestCase):
    def test_names_and_arguments(self):
        for file, calls in INTERFACE.items():
            module = importlib.import_module("twicedial." + file)
            for call in calls:
                function = getattr(module, call.partition("(")[0])
                self.assertEqual(function.__name__ + str(inspect.signature(function)), call)
                self.assertEqual(function.__module__, "twicedial." + file)

    def test_the_methods_of_the_class(self):
        desk = importlib.import_module("twicedial.desks").Desk
        for name, wanted in DESK.items():
            method = vars(desk)[name]
            self.assertEqual(list(inspect.signature(method).parameters), ["self", *wanted])

    def test_the_generator(self):
        self.assertTrue(inspect.isgeneratorfunction(importlib.import_module("twicedial.deeds").all_done))


class Form(unittest.TestCase):
    def each(self):
        return [(path, parsed(path)) for path in FILES]

    def test_files(self):
        others = [path for path in PACKAGE.rglob("*") if path not in FILES and "__pycache__" not in path.parts]
        self.assertEqual(others, [])
        self.assertLessEqual(len(FILES), 100)

    def test_characters_and_sizes(self):
        for path, tree in self.each():
            text = path.read_text(encoding="utf-8")
            self.assertTrue(all(c == "\n" or " " <= c <= "~" for c in text))
            lines = text.splitlines()
            self.assertLess(len(lines), 400)
            self.assertLessEqual(max(map(len, lines)), 120)
            for node in ast.walk(tree):
                if isinstance(node, ast.FunctionDef):
                    self.assertLessEqual(node.end_lineno - node.lineno + 1, 40, node.name)

    def test_imports(self):
        for path, tree in self.each():
            self.assertFalse([node for node in ast.walk(tree) if isinstance(node, ast.Import)])
            for module, names in imported(tree):
                if module in LIBRARY:
                    self.assertLessEqual(set(names), LIBRARY[module])
                else:
                    source = parsed(PACKAGE / (module.removeprefix("twicedial.") + ".py"))
                    defined = {node.name for node in source.body if hasattr(node, "name")}
                    defined |= {node.targets[0].id for node in source.body if isinstance(node, ast.Assign)}
                    self.assertLessEqual(set(names), defined)
                used = {node.id for node in ast.walk(tree) if isinstance(node, ast.Name)}
                self.assertLessEqual(set(names), used)

    def test_no_files_that_import_each_other(self):
        leads = {path.stem: [module.removeprefix("twicedial.") for module, _ in imported(tree)
                             if module.startswith("twicedial.")] for path, tree in self.each()}
        done = set()
        while len(done) < len(leads):
            free = [name for name in leads if name not in done and set(leads[name]) <= done]
            self.assertTrue(free, sorted(set(leads) - done))
            done.update(free)

    def test_module_level(self):
        for _, tree in self.each():
            kinds = (ast.Expr, ast.ImportFrom, ast.FunctionDef, ast.ClassDef, ast.Assign)
            names = []
            for node in tree.body:
                self.assertIsInstance(node, kinds)
                if isinstance(node, ast.Assign):
                    self.assertFalse([part for part in ast.walk(node.value) if isinstance(part, ast.Call)])
                    names.append(node.targets[0].id)
                elif hasattr(node, "name"):
                    names.append(node.name)
            names += [name for _, several in imported(tree) for name in several]
            self.assertEqual(len(names), len(set(names)))

    def test_names(self):
        own = {node.name for _, tree in self.each() for holder in ast.walk(tree) if isinstance(holder, ast.ClassDef)
               for node in holder.body if isinstance(node, ast.FunctionDef)}
        for _, tree in self.each():
            foreign = {name for _, several in imported(tree) for name in several}
            foreign |= {node.name for node in tree.body if isinstance(node, ast.ClassDef)}
            for node in ast.walk(tree):
                if isinstance(node, ast.FunctionDef):
                    self.assertEqual(bound(node) & (foreign | BUILTINS), set(), node.name)
                    self.assertEqual(node.decorator_list, [])
                if isinstance(node, (ast.FunctionDef, ast.ClassDef)):
                    self.assertNotIn(node.name, BUILTINS)
                if isinstance(node, ast.Name) and node.id in BUILTINS:
                    self.assertIn(node.id, ALLOWED)
                if isinstance(node, ast.Call) and isinstance(node.func, ast.Attribute):
                    self.assertIn(node.func.attr, METHODS | own)

    def test_expressions(self):
        for path, tree in self.each():
            for node in ast.walk(tree):
                self.assertNotIsInstance(node, (ast.Div, ast.AsyncFunctionDef, ast.Global))
                if isinstance(node, ast.Constant):
                    self.assertNotIsInstance(node.value, (float, complex))
                if isinstance(node, ast.BinOp) and isinstance(node.op, ast.Pow):
                    self.assertIsInstance(node.right, ast.Constant, path.name)
                if isinstance(node, ast.Constant) and isinstance(node.value, str):
                    self.assertNotIn("%", node.value)


if __name__ == "__main__":
    unittest.main()
