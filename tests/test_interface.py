"""The names, arguments and kinds of values of the interface, and the files that they stand in."""

import ast
import inspect
from importlib import import_module
from pathlib import Path
from unittest import TestCase

from bedtwos import dealing, errors, inn, notes, parties, twos, wishes

PACKAGE = Path(wishes.__file__).parent

CLASSES = {"errors": ["BedError", "BadWishes", "BadGuest", "BadMates", "BadParties", "NoNote"], "inn": ["Inn"]}

METHODS = {"__init__": ["self", "wishes"], "turn": ["self", "guest", "row"], "twos": ["self"], "table": ["self"]}

FUNCTIONS = {
    "wishes": {
        "need_wishes": ["wishes"],
        "suits": ["wishes", "one", "other"],
        "rather": ["wishes", "guest", "one", "other"],
    },
    "twos": {
        "restless": ["wishes", "mates"],
        "calm": ["wishes", "mates"],
        "all_twos": ["wishes"],
        "all_calm": ["wishes"],
    },
    "parties": {"rings": ["after"], "holds": ["wishes", "after"], "paired": ["after", "ahead"]},
    "dealing": {"dealt": ["wishes"]},
    "notes": {"shown": ["wishes"], "read": ["text"]},
}


def defined(module, kind):
    tree = ast.parse((PACKAGE / f"{module}.py").read_text("utf-8"))
    return [node.name for node in tree.body if isinstance(node, kind)]


class InterfaceTest(TestCase):
    def test_functions_stand_in_their_files_with_their_arguments(self):
        for module, functions in FUNCTIONS.items():
            for name, arguments in functions.items():
                with self.subTest(module=module, name=name):
                    self.assertIn(name, defined(module, ast.FunctionDef))
                    function = getattr(import_module(f"bedtwos.{module}"), name)
                    self.assertEqual(arguments, list(inspect.signature(function).parameters))

    def test_classes_stand_in_their_files(self):
        for module, classes in CLASSES.items():
            for name in classes:
                with self.subTest(module=module, name=name):
                    self.assertIn(name, defined(module, ast.ClassDef))

    def test_the_methods_of_an_inn_stand_in_the_class_itself(self):
        for name, arguments in METHODS.items():
            with self.subTest(name=name):
                self.assertEqual(arguments, list(inspect.signature(vars(inn.Inn)[name]).parameters))

    def test_most_guests(self):
        self.assertEqual(6, wishes.MOST_GUESTS)
        self.assertIs(int, type(wishes.MOST_GUESTS))

    def test_every_refusal_is_a_bed_error_and_a_value_error(self):
        self.assertTrue(issubclass(errors.BedError, ValueError))
        for name in CLASSES["errors"]:
            self.assertTrue(issubclass(getattr(errors, name), errors.BedError), name)

    def test_no_refusal_stands_under_another_one(self):
        kinds = [getattr(errors, name) for name in CLASSES["errors"] if name != "BedError"]
        for one in kinds:
            self.assertEqual([one], [other for other in kinds if issubclass(one, other)])

    def test_kinds_of_values(self):
        table, mates = [[1, 2], [0], []], [None, None, None]
        self.assertIsNone(wishes.need_wishes(table))
        self.assertIs(True, wishes.suits(table, 0, 1))
        self.assertIs(False, wishes.suits(table, 0, 2))
        self.assertIs(True, wishes.rather(table, 0, 1, None))
        self.assertIs(False, wishes.rather(table, 0, None, 1))
        self.assertIs(False, twos.calm(table, mates))
        self.assertIs(True, twos.calm(table, [1, 0, None]))
        pairs = twos.restless(table, mates)
        self.assertEqual((list, tuple), (type(pairs), type(pairs[0])))
        for answer in (twos.all_twos(table), twos.all_calm(table)):
            self.assertEqual((list, list), (type(answer), type(answer[0])))

    def test_kinds_of_values_of_parties_and_notes(self):
        ring = [[1, 2], [2, 0], [0, 1]]
        found = parties.rings([1, 0, 2])
        self.assertEqual((list, list), (type(found), type(found[0])))
        self.assertIs(True, parties.holds(ring, [1, 2, 0]))
        self.assertIs(False, parties.holds(ring, [0, 1, 2]))
        self.assertIs(list, type(parties.paired([1, 0, 2], False)))
        for table in (ring, [[]]):
            answer = dealing.dealt(table)
            self.assertEqual((tuple, 2), (type(answer), len(answer)))
            self.assertEqual((str, list), (type(answer[0]), type(answer[1])))
        self.assertIs(str, type(notes.shown(ring)))
        wishes_read = notes.read("0: 1\n1:")
        self.assertEqual((list, list), (type(wishes_read), type(wishes_read[0])))

    def test_kinds_of_values_of_an_inn(self):
        house = inn.Inn(wishes=[[1], [0]])
        self.assertEqual((list, list), (type(house.table()), type(house.table()[0])))
        self.assertIs(list, type(house.twos()))
        self.assertIsNone(house.turn(guest=0, row=[]))
        self.assertIsNone(inn.Inn([[1, 2], [2, 0], [0, 1]]).twos())
