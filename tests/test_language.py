"""The form of the code: the rules of LANGUAGE.md that can be looked at line by line, and the interface of DOC.md."""

import ast
import builtins
import importlib
import inspect
import pathlib
import unittest

PACKAGE = pathlib.Path(__file__).resolve().parent.parent / "sevenpoints"
FILES = sorted(PACKAGE.rglob("*.py"))
TREES = {path.stem: ast.parse(path.read_text()) for path in FILES}

INTERFACE = {
    "errors": ["PointError", "BadNumber(what, value)", "BadProgram(value)", "BadText(line, column)", "BadName(name)",
               "NoName(name)", "TakenName(name)", "BadRow(value)", "BadPlace(value)", "BadPoint(value)", "Unlike(what)",
               "TooMany(what, limit)", "NotKept(promise, witness)", "BadPromise(column)", "NothingToUndo", "NothingToRedo"],
    "programs": ["is_name(value)", "Program(name, inputs, block)", "size(program)", "renamed(program, pairs)"],
    "texts": ["program_of(text)", "program_text(program)"],
    "meaning": ["Done(value, turns)", "run(program, inputs, turns)", "deeds(program, inputs, turns)",
                "values_after(program, inputs, turns)", "unlike(one, other, rows, turns)"],
    "tallies": ["counts(program, rows, turns)"],
    "graphs": ["Edge(start, deed, end)", "Graph(points, edges)", "graph_of(program)",
               "walked_from(graph, point, values, turns)", "walked(graph, values, turns)", "names_read(deed)",
               "name_set(deed)", "ways_from(graph, point)", "ways_to(graph, point)"],
    "lots": ["Lot(points, parent)", "is_tree(graph, lots)", "width(lots)", "lots_of(program)", "shared(lots, index)",
             "home_of(lots, one, other)", "below(lots, index)"],
    "nets": ["Tie(one, other, costs)", "Net(states, ties)", "sum_of(net, choice)", "least_sum(net, lots)",
             "least_choice(net, lots)", "least_bound(net, lots)", "is_bound(net, lots, told)", "bound_sum(net, lots, told)",
             "joined(one, other)", "narrowed(net, point, some)"],
    "wants": ["wanted(graph)", "way_to(graph, point, name)", "is_way(graph, point, name, told)", "crowd(graph)",
              "together(graph)", "is_closed(graph, told)", "rounds_of(graph, order)"],
    "placings": ["stands(program, registers, point)", "is_placing(program, registers, told)",
                 "pieces(program, placing, index)", "cost(program, prices, placing)", "net_of(program, registers, prices)"],
    "leasts": ["least_cost(program, registers, prices)", "least_placing(program, registers, prices)",
               "LeastPaper(placing, bound)", "least_paper(program, registers, prices)",
               "is_least_paper(program, registers, prices, told)", "cost_line(program, prices, most)"],
    "machine": ["Step(start, deed, moves, end)", "Code(steps)", "Ran(value, turns, pieces)", "run_code(code, begin, turns)",
                "state_after(code, begin, turns)", "pieces_after(code, begin, turns)", "step_pieces(step)",
                "code_cost(code, prices)"],
    "codes": ["begin_of(program, placing, inputs)", "code_of(program, placing)", "is_code(program, placing, told)",
              "best_placing(program, registers, rows, turns)"],
    "moves": ["closed_rounds(moves)", "fewest_in_row(moves)", "in_a_row(moves, spare)", "is_in_row(moves, spare, told)",
              "fewest_of_step(step)", "row_of_step(step, spare)", "does_step(step, spare, told)"],
    "lines": ["Lines(rows, marks)", "run_lines(lines, begin, most)", "is_lines(code, spare, told)", "lines_of(code, spare)"],
    "codetexts": ["code_text(code)", "code_of_text(text)"],
    "widths": ["Bare(points, pairs)", "bare_of(graph)", "is_bare_tree(bare, told)", "lots_by(bare, order)", "least_width(bare)",
               "least_lots(bare)", "escapes(bare, guards)", "is_escape(bare, guards, told)", "narrow(bare, width)",
               "is_nest(bare, told)", "order_of(nest)", "nest(bare)"],
    "jumps": ["jumped(graph, jumps)", "lots_with(lots, points)", "wide_jumps(graph)"],
    "webs": ["webs_of(program)", "clashes(program)", "fewest_still(program)", "still(program, registers)", "Still(registers)",
             "Stuck(tree)", "is_still(program, registers, told)"],
    "changes": ["reached(program)", "without_dead(program)", "followed(program)", "reckoned(program)", "turned(program)",
                "settled(program)", "swapped(program, path, index)"],
    "desk": ["Desk()"],
    "journal": ["mended(text)", "replayed(text)", "sum_of(deed, ahead)"],
}

DESK_METHODS = (
    "put(self, name, text)", "edit(self, name, line, text)", "change(self, name, word)", "rename(self, name, new)", "drop(self, name)",
    "keep(self, promise)", "release(self, promise)", "undo(self)", "redo(self)", "attempt(self, action)", "trial(self, action)",
    "names(self)", "promises(self)", "program(self, name)", "text(self, name)", "least(self, name, registers)", "asked(self, promise)",
    "broken(self)", "journal(self)", "copied(self)")

METHODS = (
    "append clear copy count endswith extend find get index insert isalnum isalpha isdigit islower isspace isupper items join "
    "keys ljust lower lstrip partition pop remove replace reverse rfind rjust rpartition rsplit rstrip setdefault split "
    "splitlines startswith strip update upper values zfill bit_length add discard sort").split()

BUILTINS = (
    "len range enumerate zip min max sum abs sorted reversed int str bool list tuple dict set isinstance ord repr any all "
    "divmod ValueError KeyError ZeroDivisionError").split()

BARRED_NAMES = "register mro elements open input law version_info with_traceback add_note".split()
BARRED_ATTRIBUTES = (
    "items keys values pop update append clear extend insert remove reverse setdefault sort args encode decode hex fromhex "
    "format").split()
BARRED_WORDS = (
    "type typing enum Enum Generic Protocol ABC namedtuple NamedTuple dataclass overload contextmanager").split()

STATEMENTS = (
    ast.Assign, ast.AugAssign, ast.If, ast.While, ast.For, ast.Return, ast.Break, ast.Continue, ast.Pass, ast.Raise, ast.Assert,
    ast.Expr, ast.FunctionDef, ast.ClassDef, ast.ImportFrom, ast.Try)


def nodes_of(tree, *kinds):
    """All nodes of these kinds."""
    return [node for node in ast.walk(tree) if isinstance(node, kinds)]


def defined_in(tree):
    """The names that a file defines at module level."""
    names = [node.name for node in tree.body if isinstance(node, (ast.FunctionDef, ast.ClassDef))]
    return names + [node.targets[0].id for node in tree.body if isinstance(node, ast.Assign)]


def imported_in(tree):
    """The names that a file imports."""
    return [name.name for node in tree.body if isinstance(node, ast.ImportFrom) for name in node.names]


def local_names(function):
    """What a function assigns or is passed."""
    names = [node.arg for node in nodes_of(function, ast.arg)]
    return names + [node.id for node in nodes_of(function, ast.Name) if not isinstance(node.ctx, ast.Load)]


class Language(unittest.TestCase):

    def none(self, found):
        self.assertEqual(found, [])

    def test_files(self):
        for path in PACKAGE.rglob("*"):
            if "__pycache__" not in path.parts:
                self.assertEqual(path.suffix, ".py")
                self.assertEqual(path.name, path.name.lower())
        for path in FILES:
            text = path.read_text()
            self.none([sign for sign in text if sign != "\n" and not " " <= sign <= "~"])
            lines = text.split("\n")
            self.assertLessEqual(len(lines) - 1, 399, path)
            self.none([line for line in lines if len(line) > 120 or line.endswith(" ")])
            self.assertTrue(text.endswith("\n") and not text.endswith("\n\n"))

    def test_functions_are_small(self):
        for stem, tree in TREES.items():
            self.none([(stem, node.name) for node in nodes_of(tree, ast.FunctionDef) if node.end_lineno - node.lineno >= 40])

    def test_all_that_is_defined_is_told_of(self):
        for stem, tree in TREES.items():
            for node in [tree] + nodes_of(tree, ast.FunctionDef, ast.ClassDef):
                if not getattr(node, "name", "").startswith("__"):
                    self.assertTrue(ast.get_docstring(node), (stem, getattr(node, "name", "")))

    def test_imports(self):
        from_where = {}
        for stem, tree in TREES.items():
            found = [node for node in ast.walk(tree) if isinstance(node, (ast.Import, ast.ImportFrom))]
            self.none([node for node in found if not isinstance(node, ast.ImportFrom) or node not in tree.body])
            for node in found:
                package, file = node.module.split(".")
                self.assertEqual((package, node.level), ("sevenpoints", 0))
                for name in node.names:
                    self.assertIsNone(name.asname)
                    self.assertIn(name.name, defined_in(TREES[file]))
                    self.assertTrue([one for one in ast.walk(tree) if isinstance(one, ast.Name) and one.id == name.name])
            from_where[stem] = [node.module.split(".")[1] for node in found]
        while from_where:
            free = [stem for stem in from_where if not any(file in from_where for file in from_where[stem])]
            self.assertTrue(free, from_where)
            for stem in free:
                del from_where[stem]

    def test_module_level(self):
        for stem, tree in TREES.items():
            for node in tree.body[1:]:
                self.assertIsInstance(node, (ast.ImportFrom, ast.FunctionDef, ast.ClassDef, ast.Assign))
                if isinstance(node, ast.Assign):
                    self.none(nodes_of(node.value, ast.Call, ast.Name, ast.List, ast.comprehension))
                    read = [name.id for other in TREES.values() for name in nodes_of(other, ast.Name)
                            if isinstance(name.ctx, ast.Load)]
                    self.assertIn(node.targets[0].id, read)
            names = defined_in(tree) + imported_in(tree)
            self.assertEqual(len(names), len(set(names)), stem)

    def test_statements_and_expressions(self):
        for stem, tree in TREES.items():
            self.none([(stem, node.lineno) for node in nodes_of(tree, ast.stmt) if not isinstance(node, STATEMENTS)])
            self.none([(stem, node.lineno) for node in nodes_of(
                tree, ast.GeneratorExp, ast.Lambda, ast.Starred, ast.Div, ast.Await, ast.Yield, ast.NamedExpr)])
            self.none([node for node in nodes_of(tree, ast.FunctionDef, ast.ClassDef) if node.decorator_list])
            self.none([node for node in nodes_of(tree, ast.FunctionDef) if node.returns or node.args.defaults])
            for node in nodes_of(tree, ast.Compare):
                for sign, right in zip(node.ops, node.comparators):
                    if isinstance(sign, (ast.Is, ast.IsNot)):
                        self.assertIn(ast.unparse(right), ("None", "True", "False"))
            for node in nodes_of(tree, ast.Constant):
                self.assertNotIsInstance(node.value, (float, complex, bytes))
                if isinstance(node.value, str):
                    self.assertNotIn("%", node.value)

    def test_names(self):
        for stem, tree in TREES.items():
            taken = [node.name for node in nodes_of(tree, ast.ClassDef)] + imported_in(tree)
            for function in nodes_of(tree, ast.FunctionDef):
                self.none([(stem, name) for name in local_names(function) if name in taken or hasattr(builtins, name)])
                self.assertTrue(function.name.startswith("__") or not hasattr(builtins, function.name))
            known = defined_in(tree) + imported_in(tree) + BUILTINS
            for name in nodes_of(tree, ast.Name):
                if isinstance(name.ctx, ast.Load) and hasattr(builtins, name.id):
                    self.assertIn(name.id, known)
                self.assertNotIn(name.id, BARRED_NAMES)
            for word in BARRED_WORDS:
                code = ast.unparse(tree)
                for node in nodes_of(tree, ast.Module, ast.ClassDef, ast.FunctionDef):
                    code = code.replace(ast.get_docstring(node) or "\n\n\n", "")
                self.assertNotIn(f" {word} ", code.replace("(", " ").replace(")", " ").replace('"', " ").replace("'", " "))

    def test_attributes_and_methods(self):
        own = [node.name for tree in TREES.values() for kind in nodes_of(tree, ast.ClassDef)
               for node in nodes_of(kind, ast.FunctionDef)]
        assigned = [node.attr for tree in TREES.values() for node in nodes_of(tree, ast.Attribute)
                    if isinstance(node.ctx, ast.Store)]
        self.none([name for name in assigned if name in BARRED_ATTRIBUTES + BARRED_NAMES or name in own])
        for stem, tree in TREES.items():
            called = [node.func for node in nodes_of(tree, ast.Call) if isinstance(node.func, ast.Attribute)]
            self.none([(stem, node.attr) for node in called if node.attr not in METHODS + own])
            for node in nodes_of(tree, ast.Attribute):
                if isinstance(node.ctx, ast.Load) and node not in called:
                    self.assertIn(node.attr, assigned)
            self.none([node for node in nodes_of(tree, ast.Call) if node.keywords])

    def test_sets_are_not_iterated(self):
        for stem, tree in TREES.items():
            for node in nodes_of(tree, ast.For, ast.comprehension):
                self.assertNotIsInstance(node.iter, (ast.Set, ast.SetComp))

    def test_comparisons_of_own_classes(self):
        for tree in TREES.values():
            for kind in nodes_of(tree, ast.ClassDef):
                for node in kind.body:
                    if isinstance(node, ast.FunctionDef) and node.name == "__eq__":
                        self.assertEqual(len(node.body), 1)
                        told = ast.unparse(node.body[0].value).split(" and ")
                        self.assertEqual(told[0], f"isinstance(other, {kind.name})")
                        for part in told[1:]:
                            one, other = part.strip("()").split(" == ")
                            self.assertEqual(one.replace("self.", "other."), other)


class Interface(unittest.TestCase):

    def test_all_that_is_listed_stands_in_its_file(self):
        for stem, rows in INTERFACE.items():
            file = importlib.import_module("sevenpoints." + stem)
            for row in rows:
                name = row.split("(")[0]
                thing = getattr(file, name)
                self.assertEqual(thing.__module__, "sevenpoints." + stem)
                self.assertIn(name, defined_in(TREES[stem]))
                if "(" in row:
                    self.assertEqual(name + str(inspect.signature(thing)), row)

    def test_listed_methods_stand_in_their_class(self):
        from sevenpoints.programs import Program
        from sevenpoints.desk import Desk
        self.assertEqual(str(inspect.signature(vars(Program)["names"])), "(self)")
        for row in DESK_METHODS:
            name = row.split("(")[0]
            self.assertEqual(name + str(inspect.signature(vars(Desk)[name])), row)


if __name__ == "__main__":
    unittest.main()
