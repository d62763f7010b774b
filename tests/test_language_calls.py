"""More of the rules of the Python subset: names of methods and attributes, sorting, loops, library calls."""

import ast
import unittest

from test_language import TREES

# Methods and attributes of strings, numbers, lists, dicts, sets and bytes: what an own one must not be called,
# but for those that L26 frees.
TAKEN = {name for kind in (str, int, list, dict, set, bytes) for name in dir(kind)}
FREE_METHODS = set("""
add discard append clear copy count endswith extend find get index insert isalnum isalpha isdigit islower isspace isupper
items join keys ljust lower lstrip partition pop remove replace reverse rfind rjust rpartition rsplit rstrip setdefault
split splitlines startswith strip update upper values zfill bit_length
""".split())
FREE_ATTRIBUTES = set("count index title find get join lower upper split strip copy add".split())
CHANGING = set("append clear extend insert pop remove reverse setdefault update add discard sort".split())
HEAPS = ("heappush", "heappop", "heapify", "heapreplace", "heappushpop")


def each(kinds):
    for name, tree in TREES.items():
        for node in ast.walk(tree):
            if isinstance(node, kinds):
                yield f"{name}:{getattr(node, 'lineno', 0)}", node


def root(node):
    """The words of a name or of an attribute of it, as they are written; None for anything else."""
    return ast.unparse(node) if isinstance(node, (ast.Name, ast.Attribute)) else None


def own_attributes():
    """By class the names that its methods assign to self, and its methods."""
    for where, node in each(ast.ClassDef):
        methods = [part for part in node.body if isinstance(part, ast.FunctionDef)]
        assigned = {
            part.attr for method in methods for part in ast.walk(method)
            if isinstance(part, ast.Attribute) and isinstance(part.ctx, ast.Store)
        }
        yield where, node.name, {method.name for method in methods}, assigned


class Calls(unittest.TestCase):
    def test_l18_l26_methods_and_attributes(self):
        assigned = set()
        for where, _, methods, attributes in own_attributes():
            self.assertFalse(methods & attributes, where)
            self.assertFalse((methods - FREE_METHODS - {"__init__"}) & TAKEN, where)
            self.assertFalse((attributes - FREE_ATTRIBUTES) & TAKEN, where)
            assigned |= attributes
        methods = {name for _, _, names, _ in own_attributes() for name in names}
        called = {id(node.func) for _, node in each(ast.Call)}
        for where, node in each(ast.Attribute):
            if ast.unparse(node) in ("self.__class__", "self.__class__.__name__"):
                continue
            if isinstance(node.ctx, ast.Load) and id(node) not in called:
                self.assertIn(node.attr, assigned, where)
            elif id(node) in called:
                self.assertIn(node.attr, methods | TAKEN, where)

    def test_l18_classes_are_called(self):
        classes = {node.name for _, node in each(ast.ClassDef)}
        allowed = set()
        for _, node in each((ast.Call, ast.ClassDef, ast.ExceptHandler, ast.Raise)):
            allowed |= {id(part) for part in ast.walk(node.type)} if isinstance(node, ast.ExceptHandler) and node.type else set()
            allowed |= {id(base) for base in node.bases} if isinstance(node, ast.ClassDef) else set()
            allowed |= {id(node.func)} if isinstance(node, ast.Call) else set()
        for where, node in each(ast.Name):
            if node.id in classes:
                self.assertIn(id(node), allowed, where)

    def test_l22_methods_take_what_they_are_passed(self):
        takes = {}
        for _, node in each(ast.ClassDef):
            for part in node.body:
                if isinstance(part, ast.FunctionDef):
                    most = len(part.args.args) - 1
                    many = range(most - len(part.args.defaults), most + 1)
                    takes.setdefault(node.name if part.name == "__init__" else part.name, []).extend(many)
        for where, node in each(ast.Call):
            is_method = isinstance(node.func, ast.Attribute)
            name = node.func.attr if is_method else getattr(node.func, "id", None)
            # Classes are known by their capitals; other bare names are functions, or variables that hold some.
            if name in takes and (name not in TAKEN if is_method else name[0].isupper()):
                self.assertIn(len(node.args) + len(node.keywords), takes[name], where)

    def test_l2_library_names_are_called(self):
        called = {id(node.func) for _, node in each(ast.Call)}
        for where, node in each(ast.Name):
            if node.id in HEAPS + ("gcd", "lcm", "isqrt", "comb", "perm", "factorial"):
                self.assertIn(id(node), called, where)
        for where, node in each(ast.Call):
            if isinstance(node.func, ast.Name) and node.func.id in HEAPS:
                self.assertEqual(node.keywords, [], where)

    def test_l23_loops_do_not_change_what_they_iterate_over(self):
        for where, loop in each(ast.For):
            over = {root(part) for part in ast.walk(loop.iter)} - {None}
            for node in [part for row in loop.body for part in ast.walk(row)]:
                changed = None
                if isinstance(node, ast.Call) and isinstance(node.func, ast.Attribute) and node.func.attr in CHANGING:
                    changed = root(node.func.value)
                if isinstance(node, ast.Call) and isinstance(node.func, ast.Name) and node.func.id in HEAPS:
                    changed = root(node.args[0])
                if isinstance(node, ast.Subscript) and isinstance(node.ctx, (ast.Store, ast.Del)):
                    changed = root(node.value)
                self.assertFalse(changed is not None and changed in over, f"{where}: {changed}")

    def test_l23_iterated_on_the_spot(self):
        lazy = ("zip", "enumerate", "reversed", "map", "iter")
        for where, node in each((ast.Assign, ast.Return, ast.Tuple, ast.List, ast.Dict)):
            values = node.elts if isinstance(node, (ast.Tuple, ast.List)) else node.values if isinstance(node, ast.Dict) else [node.value]
            for value in values:
                if isinstance(value, ast.Call):
                    self.assertNotIn(getattr(value.func, "id", getattr(value.func, "attr", None)), lazy + ("items", "keys", "values"), where)

    def test_l25_sort_keys(self):
        for where, node in each(ast.Call):
            for keyword in node.keywords:
                if keyword.arg == "key":
                    self.assertIsInstance(keyword.value, ast.Lambda, where)
                    self.assertIsInstance(keyword.value.body, (ast.Name, ast.Attribute, ast.Subscript, ast.Tuple), where)

    def test_l13_l24_lambdas_and_sets(self):
        rows = [where for where, _ in each(ast.Lambda)]
        self.assertEqual(len(rows), len(set(rows)))
        for where, node in each(ast.For):
            self.assertNotIsInstance(node.iter, (ast.Set, ast.SetComp), where)
            self.assertFalse(isinstance(node.iter, ast.Call) and getattr(node.iter.func, "id", None) == "set", where)

    def test_l27_no_text_is_put_together_by_the_percent_sign(self):
        for where, node in each(ast.BinOp):
            if isinstance(node.op, ast.Mod):
                self.assertNotIsInstance(node.left, (ast.JoinedStr, ast.Constant), where)


if __name__ == "__main__":
    unittest.main()
