"""The interface as it is listed, and the form of the code: what can be seen of it without a reader."""

import ast
import builtins
import importlib
import inspect
import pathlib
import unittest

ROOT = pathlib.Path(__file__).resolve().parent.parent
PACKAGE = ROOT / "heldwater"

# Each function with its arguments, file by file.
FUNCTIONS = {
    "basins": {
        "site_number": ["basin", "name"], "route": ["basin", "name"], "upstream": ["basin", "name"],
        "claims": ["basin", "rights"], "claim_cell": ["basin", "rights", "claim"],
        "claim_size": ["basin", "rights", "claim"],
    },
    "basintext": {"parse_basin": ["text"], "basin_text": ["basin", "rights"]},
    "plans": {
        "received": ["basin", "plan", "cell"], "plan_fault": ["basin", "rights", "plan"],
        "spills": ["basin", "rights", "plan"], "gives": ["basin", "rights", "plan"],
    },
    "flows": {"greatest": ["basin", "rights"], "short_claims": ["basin", "rights"]},
    "regions": {
        "supply": ["basin", "region"], "entering": ["basin", "region"], "is_region": ["basin", "region"],
        "is_exhausted": ["basin", "rights", "region", "claim"], "reason": ["basin", "rights", "claim"],
    },
    "operations": {"operation": ["basin", "rights"]},
    "papers": {
        "certificate_fault": ["basin", "rights", "certificate"], "make_certificate": ["basin", "rights"],
        "bound_of": ["basin", "rights", "region", "claim"],
    },
    "plantext": {
        "plan_text": ["basin", "rights", "plan"], "parse_plan": ["basin", "rights", "text"],
        "certificate_text": ["basin", "rights", "certificate"], "parse_certificate": ["basin", "rights", "text"],
    },
    "sizes": {
        "least_room": ["basin", "rights", "site"], "firm_yield": ["basin", "rights", "site"],
        "with_room": ["basin", "site", "room"],
    },
    "parcels": {"parcels": ["basin", "rights", "plan"]},
    "sizepapers": {
        "judge_room": ["basin", "rights", "site", "room", "paper"],
        "judge_least_room": ["basin", "rights", "site", "paper"],
        "room_paper": ["basin", "rights", "site", "room"], "least_room_paper": ["basin", "rights", "site"],
    },
    "leases": {
        "under": ["basin", "rights", "leases"], "harm": ["basin", "rights", "leases"],
        "gets": ["basin", "rights", "leases", "name"],
        "safe_lease": ["basin", "rights", "lender", "borrower", "month"],
    },
    "waste": {
        "waste_of": ["basin", "rights", "plan"], "leaving": ["basin", "region"], "surplus": ["basin", "rights", "region"],
        "least_waste": ["basin", "rights"], "overfull": ["basin", "rights"],
    },
    "curves": {
        "yield_curve": ["basin", "dam", "place"], "room_worth": ["basin", "rights"], "reach_worth": ["basin", "rights"],
    },
    "ensembles": {
        "of_table": ["basin", "table"], "reliability": ["basin", "rights", "ensemble"],
        "sure_deliveries": ["basin", "rights", "ensemble"], "worst_table": ["basin", "rights", "ensemble", "name"],
        "sure_yield": ["basin", "rights", "site", "ensemble"], "sure_room": ["basin", "rights", "site", "ensemble"],
        "hindsight": ["basin", "rights", "table"],
    },
    "rules": {
        "run_by": ["basin", "rights", "targets"], "best_even_target": ["basin", "rights", "targets", "site"],
    },
    "journal": {
        "replay_docket": ["basin", "text"], "replay_season": ["basin", "rights", "text"],
        "replay_project": ["basin", "rights", "text"],
    },
}

# Each class with its methods and their arguments, file by file.
CLASSES = {
    "dockets": {"Docket": {
        "__init__": ["self", "basin"], "apply": ["self", "change"], "effects": ["self", "change"], "undo": ["self"],
        "rights": ["self"], "deliveries": ["self"], "journal": ["self"],
    }},
    "seasons": {"Season": {
        "__init__": ["self", "basin", "rights"], "close": ["self", "inflows"], "month": ["self"], "expected": ["self"],
        "outlook": ["self"], "records": ["self"], "undo": ["self"], "journal": ["self"],
    }},
    "projects": {"Project": {
        "__init__": ["self", "basin", "rights"], "edit": ["self", "change"], "undo": ["self"], "basin": ["self"],
        "rights": ["self"], "deliveries": ["self"], "journal": ["self"],
    }},
}

ERRORS = {
    "BadBasin": ["self", "line", "reason"], "BadPlan": ["self", "reason"], "BadArgument": ["self", "reason"],
    "BadChange": ["self", "reason"], "BadJournal": ["self", "place"], "Ended": ["self"],
}

BUILTINS = {
    "len", "range", "enumerate", "zip", "min", "max", "sum", "abs", "sorted", "reversed", "int", "str", "bool", "list",
    "tuple", "dict", "set", "isinstance", "ord", "repr", "any", "all", "divmod", "ValueError", "TypeError", "KeyError",
}

BARRED_STATEMENTS = (ast.Global, ast.AsyncFunctionDef, ast.AsyncFor, ast.AsyncWith, ast.Await)


def sources():
    return sorted(PACKAGE.rglob("*.py"))


class Interface(unittest.TestCase):
    def test_functions(self):
        for name, functions in FUNCTIONS.items():
            module = importlib.import_module(f"heldwater.{name}")
            defined = {node.name for node in ast.parse((PACKAGE / f"{name}.py").read_text()).body
                       if isinstance(node, ast.FunctionDef)}
            for function, arguments in functions.items():
                with self.subTest((name, function)):
                    self.assertIn(function, defined)
                    self.assertEqual(list(inspect.signature(getattr(module, function)).parameters), arguments)

    def test_classes(self):
        for name, classes in CLASSES.items():
            defined = {node.name: node for node in ast.parse((PACKAGE / f"{name}.py").read_text()).body
                       if isinstance(node, ast.ClassDef)}
            for told, methods in classes.items():
                made = {node.name: [argument.arg for argument in node.args.args] for node in defined[told].body
                        if isinstance(node, ast.FunctionDef)}
                for method, arguments in methods.items():
                    with self.subTest((name, told, method)):
                        self.assertEqual(made.get(method), arguments)

    def test_errors(self):
        defined = {node.name: node for node in ast.parse((PACKAGE / "errors.py").read_text()).body
                   if isinstance(node, ast.ClassDef)}
        self.assertIn("WaterError", defined)
        for name, arguments in ERRORS.items():
            with self.subTest(name):
                made = [node for node in defined[name].body if isinstance(node, ast.FunctionDef)]
                self.assertEqual([argument.arg for argument in made[0].args.args], arguments)


class Form(unittest.TestCase):
    def each(self):
        for path in sources():
            text = path.read_text(encoding="utf-8")
            yield path.name, text, ast.parse(text)

    def test_files(self):
        kept = [path for path in PACKAGE.rglob("*") if "__pycache__" not in path.parts and path.is_file()]
        self.assertEqual(sorted(kept), sources())
        self.assertIn(PACKAGE / "__init__.py", kept)
        self.assertLessEqual(len(kept), 100)
        for path in kept:
            self.assertRegex(path.name, r"\A[a-z_]+\.py\Z")

    def test_sizes(self):
        for name, text, tree in self.each():
            lines = text.split("\n")
            self.assertLessEqual(len(lines), 400, name)
            self.assertLessEqual(max(map(len, lines)), 120, name)
            for node in ast.walk(tree):
                if isinstance(node, ast.FunctionDef):
                    self.assertLessEqual(node.end_lineno - node.lineno + 1, 40, (name, node.name))

    def test_characters(self):
        for name, text, _ in self.each():
            self.assertTrue(all(character == "\n" or " " <= character <= "~" for character in text), name)
            self.assertFalse(text.startswith("\n") or not text.endswith("\n"), name)

    def test_imports(self):
        for name, _, tree in self.each():
            for node in ast.walk(tree):
                self.assertNotIsInstance(node, ast.Import, name)
                if isinstance(node, ast.ImportFrom):
                    self.assertIn(node, tree.body, name)
                    self.assertEqual((node.level, node.module.split(".")[0]), (0, "heldwater"), name)
                    defined = ast.parse((PACKAGE / (node.module.split(".")[1] + ".py")).read_text()).body
                    names = [part.name for part in defined if isinstance(part, (ast.FunctionDef, ast.ClassDef))]
                    names += [part.targets[0].id for part in defined if isinstance(part, ast.Assign)]
                    for alias in node.names:
                        self.assertIn(alias.name, names, name)
                        self.assertIsNone(alias.asname, name)

    def test_module_level(self):
        for name, _, tree in self.each():
            for k, node in enumerate(tree.body):
                docstring = k == 0 and isinstance(node, ast.Expr) and isinstance(node.value, ast.Constant)
                allowed = isinstance(node, (ast.ImportFrom, ast.FunctionDef, ast.ClassDef, ast.Assign))
                self.assertTrue(docstring or allowed, (name, node.lineno))
                if isinstance(node, ast.Assign):
                    ast.literal_eval(node.value)

    def test_what_is_not_used(self):
        for name, _, tree in self.each():
            for node in ast.walk(tree):
                self.assertNotIsInstance(node, BARRED_STATEMENTS, name)
                if isinstance(node, ast.Constant):
                    self.assertNotIsInstance(node.value, float, name)
                if isinstance(node, ast.BinOp):
                    self.assertNotIsInstance(node.op, (ast.Div, ast.MatMult), name)
                if isinstance(node, ast.FunctionDef):
                    self.assertEqual(node.decorator_list, [], name)

    def test_no_name_of_an_import_or_builtin_is_given_another_meaning(self):
        for name, _, tree in self.each():
            imported = {alias.name for node in tree.body if isinstance(node, ast.ImportFrom) for alias in node.names}
            for node in ast.walk(tree):
                told = None
                if isinstance(node, ast.Name) and not isinstance(node.ctx, ast.Load):
                    told = node.id
                if isinstance(node, ast.arg):
                    told = node.arg
                if isinstance(node, (ast.FunctionDef, ast.ClassDef)) and not node.name.startswith("__"):
                    told = node.name
                self.assertNotIn(told, imported, name)
                # What doctest has shown last is called so there.
                self.assertFalse(told not in (None, "_") and hasattr(builtins, told), (name, told))

    def test_builtins(self):
        for name, _, tree in self.each():
            bound = {"self"}
            for node in ast.walk(tree):
                if isinstance(node, ast.Name) and not isinstance(node.ctx, ast.Load):
                    bound.add(node.id)
                if isinstance(node, ast.arg):
                    bound.add(node.arg)
                if isinstance(node, (ast.FunctionDef, ast.ClassDef)):
                    bound.add(node.name)
                if isinstance(node, ast.alias):
                    bound.add(node.name)
            read = {node.id for node in ast.walk(tree) if isinstance(node, ast.Name)}
            self.assertLessEqual(read - bound, BUILTINS, name)


class Results(unittest.TestCase):
    """What is returned is new and made of tuples; arguments stay as they are."""

    def test_tuples_all_the_way_down(self):
        from heldwater import basins, basintext, flows, operations, papers, plans, plantext, regions, sizes
        basin, rights = basintext.parse_basin(
            "site up to low in 1 reach 3 room 2 held 1 flow 5 0\nsite low flow 0 0\nright a at low wants 2 4"
        )
        plan = operations.operation(basin, rights)
        for result in (
            basin, rights, basins.route(basin, "up"), basins.upstream(basin, "low"), basins.claims(basin, rights),
            basins.claim_cell(basin, rights, ("room", 0)), basins.claim_cell(basin, rights, ("right", 0, 1)), plan,
            plans.spills(basin, rights, plan), plans.gives(basin, rights, plan),
            plans.plan_fault(basin, (), (((),) + plan[1:])[:1] + (((9, 9), (9, 9)), plan[2])),
            flows.greatest(basin, rights), flows.short_claims(basin, rights),
            regions.reason(basin, rights, ("right", 0, 0)), papers.make_certificate(basin, rights),
            papers.certificate_fault(basin, rights, None), papers.certificate_fault(basin, rights, (plan, (None,))),
            plantext.parse_plan(basin, rights, plantext.plan_text(basin, rights, plan)),
            plantext.parse_certificate(basin, rights, plantext.certificate_text(basin, rights, (plan, ()))),
            sizes.with_room(basin, "up", 5),
        ):
            self.whole(result)

    def whole(self, thing):
        if isinstance(thing, (int, str)) or thing is None:
            self.assertNotIsInstance(thing, bool)
            return
        self.assertIsInstance(thing, tuple)
        for part in thing:
            self.whole(part)


if __name__ == "__main__":
    unittest.main()
