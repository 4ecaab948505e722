"""The names and arguments that the document lists, each defined in the file under which it lists them."""

import ast
import importlib
import unittest
from pathlib import Path

PACKAGE = Path(__file__).resolve().parent.parent / "sideweave"
FUNCTIONS = {
    "terms": ("is_term(thing)", "value(term, registers)", "names_of(term)"),
    "kernels": ("is_kernel(thing)", "is_body(thing)", "size(kernel)"),
    "alone": ("end(kernel, registers)", "trace(kernel, registers)"),
    "plain": ("is_launch(thing)", "run_plain(kernel, launch)"),
    "weaves": ("is_weave(bodies, thing)", "plain_weave(kernel)"),
    "woven": ("run_weave(kernel, weave, launch)",),
    "prices": ("visits(kernel, launches)", "checks(kernel, launches)", "price(kernel, weave, launches)"),
    "fewest": ("fewest(kernel, launches)", "is_prices(kernel, launches, thing)"),
    "codes": ("is_code(thing)", "code_of(kernel, weave)", "run_code(kernel, code, launch)"),
    "traces": ("fewest_ways(traces)", "is_way(traces, thing)", "is_table(traces, thing)"),
    "passes": ("fold(kernel)", "drop(kernel)", "same(kernel)", "pull(kernel)", "live(kernel)"),
    "orders": ("best_orders(one, other)", "is_order(body, thing)", "is_floor(one, other, thing)"),
    "names": ("best_names(one, other, names)", "is_renaming(one, other, names, thing)"),
    "texts": ("write_kernel(kernel)", "read_kernel(text)"),
}
CLASSES = {
    ("machines", "Machine"): ("__init__(self, kernel, code, launch)", "step(self)", "masks(self)",
                              "registers(self, lane)", "issues(self)", "ends(self)", "mark(self)",
                              "back(self, number)"),
    ("plans", "Plan"): ("__init__(self, kernel)", "include(self, launch)", "exclude(self, number)", "improve(self)",
                        "apply(self, name)", "undo(self)", "kernel(self)", "launches(self)", "weave(self)",
                        "prices(self)", "bounds(self)", "code(self)"),
}
ERRORS = ("SideweaveError", "NoTerm", "NoKernel", "NoLaunch", "NoWeave", "NoCode", "NoTraces", "NoBodies", "TooMany",
          "Full", "NoNumber", "NoPass", "NoUndo", "TooLong", "NoText")


def heads(body):
    """Return the functions that are defined in a body, each as its name and arguments."""
    return [f"{node.name}({ast.unparse(node.args)})" for node in body if isinstance(node, ast.FunctionDef)]


class Interface(unittest.TestCase):
    def body(self, module):
        return ast.parse((PACKAGE / f"{module}.py").read_text(encoding="ascii")).body

    def test_functions(self):
        for module, functions in FUNCTIONS.items():
            found = heads(self.body(module))
            self.assertEqual([function for function in functions if function not in found], [], module)
            loaded = importlib.import_module(f"sideweave.{module}")
            self.assertEqual([function for function in functions if not hasattr(loaded, function.split("(")[0])], [])

    def test_methods(self):
        for (module, name), methods in CLASSES.items():
            bodies = [node.body for node in self.body(module) if isinstance(node, ast.ClassDef) and node.name == name]
            self.assertEqual(len(bodies), 1)
            self.assertEqual([method for method in methods if method not in heads(bodies[0])], [], name)

    def test_errors(self):
        found = [node.name for node in self.body("errors") if isinstance(node, ast.ClassDef)]
        self.assertEqual(sorted(found), sorted(ERRORS))


if __name__ == "__main__":
    unittest.main()
