"""What holds over the whole program ([3], [5], and which names the interface lists in which modules)."""

import ast
import importlib
import inspect
import os
import unittest

import passedits
from helping import Everything, RefusingCase, plain, stubborn_values
from passedits import errors
from passedits.books import Book
from passedits.certificates import certify_meeting, certify_promise, certify_sure
from passedits.meeting import alike, broken, keeps, meets, parted, sure, unlike, unsure
from passedits.mends import holds, mends
from passedits.runs import done, ended
from passedits.tables import Table

# The modules of the interface in their order, with the parameters of their functions.
FUNCTIONS = {
    "limits": {},
    "errors": {},
    "tables": {},
    "runs": {"done": "text edit", "ended": "table text edits arrival"},
    "meeting": {
        "meets": "table many", "parted": "table many", "sure": "table", "unsure": "table",
        "keeps": "table promise many", "broken": "table promise many", "alike": "one other", "unlike": "one other",
    },
    "mends": {"holds": "table wish", "mends": "table wishes changes"},
    "books": {},
    "checker": {"accepts": "claim certificate"},
    "certificates": {
        "certify_meeting": "table many", "certify_sure": "table", "certify_promise": "table promise many",
    },
}
METHODS = {
    "tables": {Table: {"read": "text", "passed": "edit past first", "changed": "change"}},
    "books": {Book: {"remove": "name", "wish": "wish", "lift": "index", "undo": "", "trial": "", "tried": "action"}},
}
PROPERTIES = {Table: ("kinds", "rows"), Book: ("names", "wishes", "changes")}
OPERATORS = {
    Table: ("__init__", "__getitem__", "__len__", "__str__", "__eq__"),
    Book: ("__init__", "__setitem__", "__getitem__", "__contains__", "__len__"),
}
FOLDER = os.path.dirname(passedits.__file__)


def parameters(function):
    """The names of the parameters, those of methods without the first one."""
    return " ".join(name for name in inspect.signature(function).parameters if name != "self")


def needed(name):
    """The modules of the package that this one imports from."""
    with open(os.path.join(FOLDER, name + ".py"), encoding="utf-8") as file:
        tree = ast.parse(file.read())
    found = [node.module for node in ast.walk(tree) if isinstance(node, ast.ImportFrom)]
    return [module.partition(".")[2] for module in found]


class Interface(unittest.TestCase):
    def test_functions_stand_in_their_modules(self):
        for module, functions in FUNCTIONS.items():
            for name, names in functions.items():
                function = getattr(importlib.import_module("passedits." + module), name)
                self.assertTrue(inspect.isfunction(function))
                self.assertEqual(function.__module__, "passedits." + module)
                self.assertEqual(parameters(function), names)

    def test_classes_stand_in_their_modules(self):
        for module, classes in METHODS.items():
            for made, methods in classes.items():
                self.assertEqual(made.__module__, "passedits." + module)
                for name, names in methods.items():
                    self.assertIn(name, vars(made))
                    self.assertEqual(parameters(getattr(made, name)), names)
                for name in PROPERTIES[made]:
                    self.assertIsInstance(vars(made)[name], property)
                for name in OPERATORS[made]:
                    self.assertIn(name, vars(made))
        self.assertEqual([parameters(Table), parameters(Book)], ["kinds rows", ""])

    def test_each_module_needs_only_those_ahead_of_it(self):
        listed = list(FUNCTIONS)
        for index, name in enumerate(listed):
            for other in needed(name):
                # The forms are for all modules from the tables on, and need the limits alone.
                self.assertIn(other, listed[:index] + ["forms"] * (index > 1))
        self.assertEqual(needed("forms"), ["limits"])

    def test_the_package_holds_its_modules_alone(self):
        files = [name for name in os.listdir(FOLDER) if name != "__pycache__"]
        self.assertEqual(sorted(files), sorted([name + ".py" for name in (*FUNCTIONS, "forms", "__init__")]))


class Stubborn(RefusingCase):
    """Values that say of themselves what is not so, for each parameter with an error."""

    def test_each_parameter(self):
        table = plain()
        put = ("put", 0, "x")
        for value in stubborn_values():
            for error, call, values in (
                (errors.InvalidKinds, Table, (value,)),
                (errors.InvalidText, Table.read, (value,)),
                (errors.InvalidEdit, table.passed, (value, put, True)),
                (errors.InvalidEdit, table.passed, (put, value, True)),
                (errors.InvalidFirst, table.passed, (put, put, value)),
                (errors.InvalidChange, table.changed, (value,)),
                (errors.UnknownName, table.__getitem__, (value,)),
                (errors.InvalidText, done, (value, put)),
                (errors.InvalidEdit, done, ("a", value)),
                (errors.NotATable, ended, (value, "a", (put,), (0,))),
                (errors.InvalidText, ended, (table, value, (put,), (0,))),
                (errors.InvalidArrival, ended, (table, "a", (put,), value)),
                (errors.NotATable, meets, (value, 2)), (errors.InvalidNumber, meets, (table, value)),
                (errors.NotATable, parted, (value, 2)), (errors.InvalidNumber, parted, (table, value)),
                (errors.NotATable, sure, (value,)), (errors.NotATable, unsure, (value,)),
                (errors.NotATable, keeps, (value, "puts", 2)), (errors.InvalidPromise, keeps, (table, value, 2)),
                (errors.InvalidNumber, keeps, (table, "puts", value)),
                (errors.NotATable, broken, (value, "puts", 2)), (errors.InvalidPromise, broken, (table, value, 2)),
                (errors.InvalidNumber, broken, (table, "puts", value)),
                (errors.NotATable, alike, (value, table)), (errors.NotATable, alike, (table, value)),
                (errors.NotATable, unlike, (value, table)), (errors.NotATable, unlike, (table, value)),
                (errors.NotATable, holds, (value, ("sure",))), (errors.InvalidWish, holds, (table, value)),
                (errors.NotATable, mends, (value, (), ())),
                (errors.InvalidName, Book().__setitem__, (value, table)),
                (errors.NotATable, Book().__setitem__, ("a", value)),
                (errors.UnknownName, Book().__getitem__, (value,)), (errors.UnknownName, Book().remove, (value,)),
                (errors.InvalidWish, Book().wish, (value,)), (errors.InvalidIndex, Book().lift, (value,)),
                (errors.NotATable, certify_meeting, (value, 2)), (errors.NotATable, certify_sure, (value,)),
                (errors.NotATable, certify_promise, (value, "puts", 2)),
                (errors.InvalidNumber, certify_meeting, (table, value)),
                (errors.InvalidPromise, certify_promise, (table, value, 2)),
                (errors.InvalidNumber, certify_promise, (table, "puts", value)),
            ):
                self.refused_given(error, value, call, *values)

    def test_each_parameter_with_an_index(self):
        table = plain()
        for value in stubborn_values():
            for error, call, values in (
                (errors.InvalidRows, Table, (("put",), value)),
                (errors.InvalidEdits, ended, (table, "a", value, (0,))),
                (errors.InvalidWishes, mends, (table, value, ())),
                (errors.InvalidChanges, mends, (table, (), value)),
            ):
                self.refused_index(error, None, call, *values)
            for error, call, values in (
                (errors.InvalidRows, Table, (("put",), (value,))),
                (errors.InvalidEdits, ended, (table, "a", (value,), (0,))),
                (errors.InvalidWishes, mends, (table, (value,), ())),
                (errors.InvalidChanges, mends, (table, (), (value,))),
            ):
                self.refused_index(error, 0, call, *values)

    def test_within_tuples(self):
        table = plain()
        for value in stubborn_values():
            for error, call, values in (
                (errors.InvalidKinds, Table, ((value,),)), (errors.InvalidKinds, Table, (("put", value),)),
                (errors.InvalidEdit, done, ("a", (value, 0, "x"))), (errors.InvalidEdit, done, ("a", ("out", value))),
                (errors.InvalidEdit, done, ("a", ("put", 0, value))),
                (errors.InvalidArrival, ended, (table, "a", (("out", 0),), (value,))),
                (errors.UnknownName, table.__getitem__, ((value, "put", "="),)),
                (errors.UnknownName, table.__getitem__, (("put", "put", value),)),
                (errors.InvalidWish, holds, (table, (value,))), (errors.InvalidWish, holds, (table, ("meets", value))),
            ):
                self.refused(error, call, *values)

    def test_objects_equal_no_value_of_another_class(self):
        for made in (plain(), Table(("put",)), Book()):
            self.assertIs(made == Everything(), False)
            self.assertIs(made != Everything(), True)


if __name__ == "__main__":
    unittest.main()
