"""The files of the package: their form, their imports, and the interface that they define."""

import ast
import builtins
import re
import unittest
from pathlib import Path

PACKAGE = Path(__file__).resolve().parent.parent / "leastmoved"
FILES = sorted(PACKAGE.glob("*.py"))
TREES = {path.stem: ast.parse(path.read_text("utf-8")) for path in FILES}
LIBRARY = {
    "math": {"gcd", "lcm", "isqrt", "comb", "perm", "factorial"},
    "itertools": {"product", "combinations", "permutations"},
}
BARRED_NODES = (ast.Global, ast.AsyncFunctionDef, ast.AsyncFor, ast.AsyncWith, ast.Await, ast.Div, ast.Import)
BARRED_WORDS = re.compile(
    r"\b(typing|enum|Enum|namedtuple|NamedTuple|abstractmethod|register|mro|elements|open|input|law|eval|exec|id"
    r"|globals|locals|vars|dir|print|chr|_wall)\b")

INTERFACE = {
    "errors": {
        "LeastError": None, "BadValue": "name", "TooLarge": "what", "NotPossible": "why", "TextError": "column words"},
    "allocations": {
        "is_allocation": "value variants buckets", "transfer": "first second", "medians": "first second third",
        "apportioned": "weights buckets", "deviation": "weights allocation", "is_nearest": "weights allocation",
        "is_order": "value many", "renamed_shares": "allocation order"},
    "assignments": {
        "is_assignment": "value variants buckets", "allocation_of": "assignment variants", "churn": "first second",
        "moves": "first second", "flows": "first second variants", "buckets_of": "assignment variant",
        "renamed": "assignment order", "rearranged": "assignment order"},
    "changes": {
        "needless": "variants assignment other", "is_minimal": "variants assignment other",
        "first_change": "allocation assignment", "excess": "allocation assignment other",
        "choices": "allocation assignment bucket"},
    "counting": {
        "count_changes": "allocation assignment", "nth_change": "allocation assignment index",
        "index_of": "allocation assignment other", "next_change": "allocation assignment other bucket"},
    "priorities": {
        "unlike_pair": "variants table", "first_lists": "variants table", "gives": "variants table lists",
        "served": "variants lists allocation"},
    "extending": {
        "allowed": "variants table allocation bucket", "extension": "variants table allocation",
        "obstruction": "variants table allocation", "is_obstruction": "variants table allocation value"},
    "triples": {
        "excess": "first second third", "table_of_three": "first second third", "all_different": "first second third",
        "accepts_three": "first second third answer", "return_cost": "first second third",
        "returned": "first second third assignment", "accepts_return": "first second third chain",
        "lies_between": "middle first second", "bridge": "first second third"},
    "plans": {
        "first_cycle": "allocations pairs", "bad_triples": "allocations pairs", "kept_pairs": "allocations pairs table",
        "first_table": "allocations pairs"},
    "conflicts": {
        "most_pairs": "allocations pairs", "least_conflict": "allocations pairs", "tree_against": "allocations pairs",
        "accepts_tree": "allocations pairs tree"},
    "histories": {
        "total": "allocations", "direct": "allocations", "first_turn": "allocations", "decreases": "allocations",
        "overdrawn": "allocations", "first_history": "allocations", "wrong_step": "allocations table",
        "changes_of": "allocations history", "calm_history": "allocations", "within": "allocations limit",
        "least_limit": "allocations"},
    "rules": {
        "is_rule": "value variants buckets", "missing": "variants buckets rule", "needless_leave": "variants buckets rule",
        "leaves": "variants buckets rule first second bucket", "lists_of_rule": "variants buckets rule",
        "serves_rule": "variants buckets rule lists", "most_waste": "variants buckets rule"},
    "continuing": {
        "allowed_variants": "variants buckets rule allocation", "continuation": "variants buckets rule allocation",
        "why_none": "variants buckets rule allocation", "accepts_none": "variants buckets rule allocation evidence"},
    "populations": {
        "is_family": "value variants", "entries": "variants family", "coexist": "variants family first second",
        "greatest_clique": "variants family", "fault": "variants family lists"},
    "fewest": {
        "fewest": "variants family", "accepts_few": "variants family few tree", "accepts_fewest": "variants family evidence",
        "needed": "variants total", "lists_for": "variants total"},
    "thresholds": {
        "by_intervals": "allocation order", "boundaries": "allocation order", "interval_churn": "first second order",
        "waste": "first second order", "interval_moves": "first second order", "best_order": "allocations"},
    "exclusions": {
        "is_possible": "allocation forbidden value", "first_possible": "allocation forbidden",
        "too_small": "allocation forbidden", "is_too_small": "allocation forbidden value"},
    "keeping": {
        "most_kept": "allocation assignment forbidden pins", "bound_by": "allocation assignment forbidden pins levels",
        "levels_for": "allocation assignment forbidden pins",
        "is_best": "allocation assignment forbidden pins value levels"},
    "controller": {"Controller": "variants buckets"},
    "journals": {"replayed": "variants buckets journal", "are_right": "variants buckets records"},
    "scanning": {"scan": "text"},
    "reading": {"next_tokens": "text kind", "read_shares": "text", "read_assignment": "text variants"},
    "writing": {
        "shares_text": "shares", "assignment_text": "assignment", "is_shares": "value",
        "allocation_of_shares": "shares buckets"},
}
METHODS = {
    "Controller": {
        "act": "action", "undo": "", "assignment": "", "allocation": "", "changes": "", "pins": "", "excluded": "",
        "earlier": "", "churn_to": "allocation", "journal": "", "records": ""},
}


def functions_of(tree):
    return [node for node in ast.walk(tree) if isinstance(node, ast.FunctionDef)]


def imports_of(tree):
    return [node for node in ast.walk(tree) if isinstance(node, ast.ImportFrom)]


def parameters_of(function):
    return [each.arg for each in function.args.args]


def defined_in(tree):
    """The functions, classes and values that a file defines itself."""
    names = set()
    for node in tree.body:
        if isinstance(node, (ast.FunctionDef, ast.ClassDef)):
            names.add(node.name)
        if isinstance(node, ast.Assign):
            names.update(target.id for target in node.targets)
    return names


def own_imports(name):
    return [node.module.split(".")[1] for node in imports_of(TREES[name]) if node.module.startswith("leastmoved.")]


def reached_from(name):
    found, waiting = set(), own_imports(name)
    while waiting:
        one = waiting.pop()
        if one not in found:
            found.add(one)
            waiting.extend(own_imports(one))
    return found


class Files(unittest.TestCase):
    def test_folder_holds_plain_files_only(self):
        names = [path.name for path in PACKAGE.iterdir() if path.name != "__pycache__"]
        self.assertIn("__init__.py", names)
        for name in names:
            self.assertRegex(name, r"\A[a-z0-9_]+\.py\Z")

    def test_characters_and_sizes(self):
        for path in FILES:
            text = path.read_text("utf-8")
            self.assertRegex(text, r"\A[ -~\n]*\Z", path.name)
            self.assertLessEqual(len(text.splitlines()), 399, path.name)
            self.assertLessEqual(max(map(len, text.splitlines())), 120, path.name)

    def test_functions_are_small(self):
        for name, tree in TREES.items():
            for function in functions_of(tree):
                self.assertLessEqual(function.end_lineno - function.lineno + 1, 40, (name, function.name))

    def test_statements_and_words(self):
        for name, tree in TREES.items():
            for node in ast.walk(tree):
                self.assertNotIsInstance(node, BARRED_NODES, name)
                if isinstance(node, ast.Constant):
                    self.assertNotIsInstance(node.value, (float, complex), name)
                if isinstance(node, (ast.Name, ast.Attribute, ast.arg)):
                    word = getattr(node, "id", None) or getattr(node, "attr", None) or getattr(node, "arg", None)
                    self.assertNotRegex(word, BARRED_WORDS, name)

    def test_every_definition_has_a_docstring(self):
        for name, tree in TREES.items():
            self.assertTrue(ast.get_docstring(tree), name)
            for node in ast.walk(tree):
                if isinstance(node, (ast.FunctionDef, ast.ClassDef)) and node.name != "__init__":
                    self.assertTrue(ast.get_docstring(node), (name, node.name))


class Names(unittest.TestCase):
    def test_imports(self):
        for name, tree in TREES.items():
            for node in imports_of(tree):
                imported = {each.name for each in node.names}
                if node.module in LIBRARY:
                    self.assertLessEqual(imported, LIBRARY[node.module], name)
                else:
                    self.assertLessEqual(imported, defined_in(TREES[node.module.split(".")[1]]), name)

    def test_no_two_files_import_from_each_other(self):
        for name in TREES:
            self.assertNotIn(name, reached_from(name))

    def test_no_class_has_a_method_and_an_attribute_of_one_name(self):
        nodes = [node for tree in TREES.values() for node in ast.walk(tree)]
        classes = [node for node in nodes if isinstance(node, ast.ClassDef)]
        methods = {each.name for node in classes for each in node.body if isinstance(each, ast.FunctionDef)}
        stored = {node.attr for node in nodes if isinstance(node, ast.Attribute) and isinstance(node.ctx, ast.Store)}
        self.assertEqual(methods & stored, set())

    def test_no_name_is_given_another_meaning(self):
        for name, tree in TREES.items():
            imported = {each.name for node in imports_of(tree) for each in node.names}
            bound = [node.id for node in ast.walk(tree) if isinstance(node, ast.Name) and isinstance(node.ctx, ast.Store)]
            for function in functions_of(tree):
                bound.extend(parameters_of(function))
            for word in set(bound) - {"_"}:
                self.assertNotIn(word, imported, name)
                self.assertFalse(hasattr(builtins, word), (name, word))


class Interface(unittest.TestCase):
    """Promise 8: every name is defined in the file under which the document lists it."""

    def test_functions_and_classes(self):
        for name, wanted in INTERFACE.items():
            here = {node.name: node for node in TREES[name].body if isinstance(node, (ast.FunctionDef, ast.ClassDef))}
            for word, parameters in wanted.items():
                self.assertIn(word, here, name)
                if parameters is not None:
                    self.check_parameters(here[word], parameters.split())

    def check_parameters(self, node, parameters):
        if isinstance(node, ast.FunctionDef):
            self.assertEqual(parameters_of(node), parameters, node.name)
        else:
            made = [each for each in node.body if isinstance(each, ast.FunctionDef) and each.name == "__init__"]
            self.assertEqual(parameters_of(made[0]), ["self"] + parameters, node.name)

    def test_methods_stand_in_their_class(self):
        classes = {node.name: node for tree in TREES.values() for node in tree.body if isinstance(node, ast.ClassDef)}
        for name, wanted in METHODS.items():
            here = {node.name: node for node in classes[name].body if isinstance(node, ast.FunctionDef)}
            for word, parameters in wanted.items():
                self.assertEqual(parameters_of(here[word]), ["self"] + parameters.split(), (name, word))
