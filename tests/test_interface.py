"""The names, arguments and places that the document's interface lists."""

import importlib
import inspect
import unittest

from piecetables import errors
from piecetables.errors import Disagree, Lost, PieceError, TooMany
from piecetables.ledgers import Agreeing, Ledger, Loose
from piecetables.pieces import Piece
from piecetables.reports import Report

WITH_MESSAGE = (
    "NoVariables NoCounts NoRow NoFactor NoMany NoPiece NoTotal NoReport NoNumber NoPattern NoScheme NoSteps NoRing "
    "NoText NothingDone"
).split()

FUNCTIONS = {
    "piecetables.reports": {"clash": ["report"]},
    "piecetables.wholes": {
        "whole": ["report"], "shows_whole": ["report", "thing"], "shows_bet": ["report", "thing"],
    },
    "piecetables.bounds": {
        "least": ["report", "pattern"], "greatest": ["report", "pattern"],
        "shows_least": ["report", "pattern", "thing"], "shows_greatest": ["report", "pattern", "thing"],
    },
    "piecetables.schemes": {"is_scheme": ["thing"], "steps": ["scheme"], "shows_steps": ["scheme", "thing"]},
    "piecetables.knots": {"knot": ["scheme"], "shows_knot": ["scheme", "thing"], "trap": ["scheme"]},
    "piecetables.woven": {"woven": ["report"]},
    "piecetables.rims": {"rim": ["report"]},
    "piecetables.fewest": {"drops": ["report"], "quarrels": ["report"]},
    "piecetables.tables": {"tables": ["report"]},
}

OF_LEDGERS = ["__init__", "take", "__call__", "take_all", "undo", "trying", "__len__", "__contains__", "__eq__",
              "__repr__"]

METHODS = {
    Piece: ["__init__", "__call__", "__getitem__", "__add__", "__mul__", "__len__", "__contains__", "__eq__",
            "__repr__"],
    Report: ["__init__", "__call__", "__add__", "__sub__", "__or__", "__len__", "__eq__", "__repr__", "text", "read"],
    Ledger: OF_LEDGERS, Agreeing: OF_LEDGERS, Loose: OF_LEDGERS,
}

PROPERTIES = {
    Piece: ["variables", "counts", "total"], Report: ["many", "pieces", "total", "scheme"],
    **{kind: ["many", "total", "pieces", "report", "untold"] for kind in (Ledger, Agreeing, Loose)},
}

METHOD_ARGUMENTS = {"take": ["piece"], "__call__": ["piece"], "take_all": ["pieces"], "undo": [], "trying": []}


class Interface(unittest.TestCase):

    def test_functions_stand_in_their_files(self):
        for module, functions in FUNCTIONS.items():
            for name, arguments in functions.items():
                function = getattr(importlib.import_module(module), name)
                self.assertEqual(function.__module__, module)
                self.assertEqual(list(inspect.signature(function).parameters), arguments)

    def test_classes_stand_in_their_files(self):
        self.assertEqual(Piece.__module__, "piecetables.pieces")
        self.assertEqual(Report.__module__, "piecetables.reports")
        self.assertEqual(list(inspect.signature(Piece).parameters), ["variables", "counts"])
        self.assertEqual(list(inspect.signature(Report).parameters), ["many", "pieces"])
        for kind in (Ledger, Agreeing, Loose):
            self.assertEqual(kind.__module__, "piecetables.ledgers")
            self.assertEqual(list(inspect.signature(kind).parameters), ["many", "total"])

    def test_methods_stand_in_their_classes(self):
        for kind, names in METHODS.items():
            for name in names:
                self.assertTrue(inspect.isfunction(vars(kind)[name]) or name == "read", name)

    def test_properties_stand_in_their_classes(self):
        for kind, names in PROPERTIES.items():
            for name in names:
                self.assertIsInstance(vars(kind)[name], property)

    def test_arguments_of_the_methods_of_ledgers(self):
        for kind in (Ledger, Agreeing, Loose):
            for name, arguments in METHOD_ARGUMENTS.items():
                self.assertEqual(list(inspect.signature(vars(kind)[name]).parameters), ["self", *arguments])

    def test_generators(self):
        for name, module in [("quarrels", "piecetables.fewest"), ("tables", "piecetables.tables")]:
            self.assertTrue(inspect.isgeneratorfunction(getattr(importlib.import_module(module), name)))

    def test_class_values(self):
        piece = Piece((0,), (1, 1))
        self.assertEqual((Piece.LIMIT, Report.LIMIT), (1000, 5))
        self.assertEqual((piece.LIMIT, Report(1, piece).LIMIT), (1000, 5))

    def test_arguments_by_name(self):
        piece = Piece(variables=(0,), counts=(1, 1))
        self.assertEqual(piece, Piece((0,), (1, 1)))
        self.assertEqual(piece(variables=(0,)), piece)
        self.assertEqual(Report(1, piece)(variables=(0,)), piece)
        self.assertEqual(Report.read(text="variables 1\n0: 1 1\n"), Report(1, piece))
        for kind in (Ledger, Agreeing, Loose):
            ledger = kind(many=1, total=2)
            self.assertEqual((ledger.take(piece=piece), ledger(piece=piece), ledger.pieces), (1, 2, (piece, piece)))


class Errors(unittest.TestCase):

    def test_bases(self):
        self.assertEqual(PieceError.__bases__, (ValueError,))
        for name in [*WITH_MESSAGE, "Disagree", "Lost", "TooMany"]:
            error = getattr(errors, name)
            self.assertEqual(error.__bases__, (PieceError,))
            self.assertEqual(error.__module__, "piecetables.errors")

    def test_made_with_a_message_or_none(self):
        for name in ["PieceError", *WITH_MESSAGE]:
            error = getattr(errors, name)
            self.assertEqual(str(error()), "")
            self.assertEqual(str(error("a message")), "a message")

    def test_fields(self):
        disagree = Disagree(1, 3)
        self.assertEqual((disagree.first, disagree.second), (1, 3))
        self.assertEqual(Lost(((1, -1),)).stakes, ((1, -1),))
        many = TooMany(6, 5)
        self.assertEqual((many.amount, many.limit), (6, 5))

    def test_fields_by_name(self):
        disagree = Disagree(second=3, first=1)
        self.assertEqual((disagree.first, disagree.second), (1, 3))
        self.assertEqual(Lost(stakes=()).stakes, ())
        many = TooMany(limit=5, amount=6)
        self.assertEqual((many.amount, many.limit), (6, 5))


if __name__ == "__main__":
    unittest.main()
