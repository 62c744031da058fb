"""That everything that the document's interface lists exists under its name, in its file."""

import importlib
import inspect
import unittest

# For each file its functions, with their parameters.
FUNCTIONS = {
    "tables": {"is_view": "(thing)", "is_table": "(view, thing)", "broken": "(view, table)",
               "permitted": "(view, table)"},
    "parts": {"is_parts": "(view, thing)", "parts_of": "(view, table)", "table_of": "(view, parts)",
              "kept_by": "(view, table)", "table_keeping": "(view, kept)"},
    "counts": {"count_tables": "(view)", "count_full": "(view)", "widest": "(view)", "tables": "(view)",
               "full_tables": "(view)"},
    "wishes": {"are_wishes": "(view, thing)", "ungranted": "(view, table, wishes)", "smallest": "(view, wishes)",
               "shows_smallest": "(view, wishes, thing)", "full_with": "(view, wishes)"},
    "joins": {"chain": "(inner, inner_table, outer, outer_table)", "joined": "(*pairs)",
              "shows_joined": "(*pairs, answer)", "dependence": "(one, other)",
              "merged": "(one, other, base, *, mine, its)"},
    "texts": {"table_text": "(view, table)", "read_table": "(text)"},
}

# For each class of the two files with classes: its parameters, its base, its methods and its properties.
CLASSES = {
    "family": {
        "View": ("(shown)", "object", {
            "value_at": "(self, state)", "put": "(self, state, value)", "may": "(self, state)",
            "reachable": "(self, state)", "__eq__": "(self, other)", "__repr__": "(self)",
        }, ["shown", "table", "parts"]),
        "TableView": ("(shown, table)", "View", {}, []),
        "KeptView": ("(shown, kept)", "View", {}, ["kept"]),
        "LoggedView": ("(shown, table)", "TableView", {}, ["log"]),
        "ChainView": ("(inner, outer)", "View", {}, []),
        "JoinedView": ("(*views)", "View", {}, ["tuples"]),
        "WishView": ("(shown, wishes=())", "View", {"learn": "(self, state, value, result)"}, ["wishes"]),
    },
    "desk": {
        "Desk": ("(state, *views)", "object", {
            "assign": "(self, state)", "cell": "(self, number)", "do": "(self, *steps)", "undo": "(self)",
            "reachable": "(self)", "routes": "(self, target)"}, ["state", "shown", "history"]),
        "Cell": (None, "object", {"assign": "(self, value)"}, ["value"]),
    },
}

GENERATORS = ["counts.tables", "counts.full_tables", "family.View.reachable", "desk.Desk.reachable", "desk.Desk.routes"]
ASSIGNABLE = ["desk.Desk.state", "desk.Cell.value"]


def module(name):
    return importlib.import_module("writebacks." + name)


class InterfaceTest(unittest.TestCase):
    def test_functions(self):
        for file, functions in FUNCTIONS.items():
            for name, parameters in functions.items():
                function = getattr(module(file), name)
                self.assertEqual(function.__module__, "writebacks." + file)
                self.assertEqual(function.__name__, name)
                self.assertEqual(str(inspect.signature(function)), parameters)
                self.assertEqual(inspect.isgeneratorfunction(function), file + "." + name in GENERATORS)

    def test_classes(self):
        for file, classes in CLASSES.items():
            for name, (parameters, base, methods, properties) in classes.items():
                made = getattr(module(file), name)
                self.assertEqual((made.__module__, made.__name__), ("writebacks." + file, name))
                self.assertEqual(made.__bases__, (getattr(module(file), base, object),))
                self.assertIn("__init__", vars(made))
                if parameters is not None:
                    self.assertEqual(str(inspect.signature(made)), parameters)
                self.check_methods(file, made, methods)
                self.check_properties(file, made, properties)

    def check_methods(self, file, made, methods):
        for name, parameters in methods.items():
            self.assertEqual(str(inspect.signature(vars(made)[name])), parameters)
            full = file + "." + made.__name__ + "." + name
            self.assertEqual(inspect.isgeneratorfunction(vars(made)[name]), full in GENERATORS)

    def check_properties(self, file, made, properties):
        for name in properties:
            self.assertIsInstance(vars(made)[name], property)
            self.assertEqual(vars(made)[name].fset is not None, file + "." + made.__name__ + "." + name in ASSIGNABLE)

    def test_what_is_called_off_the_class(self):
        made = module("family").View
        for name, parameters in [("read", "(text)"), ("joined", "(*views)")]:
            self.assertIn(name, vars(made))
            self.assertEqual(str(inspect.signature(getattr(made, name))), parameters)
        self.assertEqual(repr(vars(made)["LIMIT"]), "9")

    def test_arguments_by_keyword(self):
        family = module("family")
        view = (0, 1, 0)
        table = module("parts").table_keeping(view=view, kept=(0, 0, 1))
        one = family.TableView(shown=view, table=table)
        self.assertEqual(one, family.KeptView(shown=view, kept=(0, 0, 1)))
        self.assertEqual(family.LoggedView(shown=view, table=table).put(state=0, value=1), 1)
        self.assertEqual((one.value_at(state=1), one.may(state=2), list(one.reachable(state=1))), (1, (0,), [1, 0]))
        self.assertEqual(family.View.read(text=module("texts").table_text(view=view, table=table)), one)
        self.assertEqual(family.ChainView(inner=one, outer=family.View(shown=(1, 0))).shown, (1, 0, 1))
        held = family.WishView(shown=view, wishes=())
        held.learn(state=0, value=1, result=1)
        self.assertEqual(held, one)

    def test_arguments_of_a_desk_by_keyword(self):
        desk = module("desk").Desk(0, module("family").KeptView((0, 1, 0), (0, 0, 1)))
        desk.cell(number=0).assign(value=1)
        self.assertEqual((desk.state, list(desk.routes(target=0))), (1, [((0, 0),)]))
        desk.assign(state=2)
        self.assertEqual(desk.state, 2)


if __name__ == "__main__":
    unittest.main()
