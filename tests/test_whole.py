"""What the document promises over the whole program: point 1, and the names of the interface."""

import ast
import copy
import importlib
import inspect
import itertools
import pathlib
import random
import unittest

import whichstand
from direct import AIMS, random_table, subsets
from whichstand import (
    apart, census, costs, errors, faults, leading, machines, owns, rows, sides, texts, trees, watches,
)
from whichstand.errors import StandError
from whichstand.machines import Machine

TREE_AIMS = ("first", "last")

# Each module with its functions and their arguments.
FUNCTIONS = {
    machines: {"walk": "machine stand row"},
    apart: {"told_apart": "machine one other", "alike": "machine"},
    rows: {
        "reaches": "machine stands aim row", "shows": "machine stands aim value",
        "least_row": "machine stands aim", "paper": "machine stands aim",
    },
    trees: {
        "tree": "machine stands aim", "least_depth": "machine stands aim", "depth_of": "machine stands aim value",
    },
    census: {"census": "stands written"},
    texts: {"write": "machine", "read": "text"},
    owns: {"own_row": "machine stands stand", "own_rows": "machine stands"},
    sides: {
        "tells_side": "machine sides row", "side_shows": "machine sides value", "least_side_row": "machine sides",
        "side_paper": "machine sides",
    },
    leading: {
        "least_lead": "machine stands goal", "lead_depth": "machine stands goal value",
        "lead": "machine stands goal",
    },
    costs: {"cheapest": "machine stands aim costs"},
    faults: {
        "is_seen": "machine change row", "least_seen": "machine change", "never_seen": "machine",
        "count_seen": "machine row",
    },
}
# Each class with the arguments that it is made of, and with its methods.
CLASSES = {
    machines.Machine: ("table", {"__len__": "", "__eq__": "other"}, ["table", "letters"]),
    watches.Watch: (
        "machine stands",
        {
            "see": "letter written", "lasts": "", "firsts": "", "can_read": "", "undo": "", "copy": "",
            "__len__": "",
        },
        ["machine"],
    ),
}


def watched(machine, stands, deeds):
    """What a watch tells over some deeds; those that are refused are told, too."""
    watch = watches.Watch(machine, stands)
    told = [watch.lasts(), watch.firsts(), watch.can_read(), len(watch)]
    for letter, wrote in deeds:
        try:
            told.append(watch.see(letter, wrote))
        except StandError as error:
            told.append(type(error).__name__)
        told.extend([watch.lasts(), watch.firsts(), watch.can_read(), len(watch)])
    twin = watch.copy()
    told.extend([watch.undo(), watch.lasts(), twin.lasts(), twin.firsts(), len(twin)])
    return told


def text_questions(machine):
    text = texts.write(machine)
    yield texts.write, (machine,)
    yield lambda value: texts.read(value).table, (text,)
    yield lambda value: texts.read(value).table, (text.replace(":", " "),)


def stands_questions(machine, stands):
    """All questions about a machine that can be in some stands at first."""
    letters = range(machine.letters)
    row = tuple(letters)
    for aim in AIMS:
        yield rows.reaches, (machine, stands, aim, row)
        yield rows.least_row, (machine, stands, aim)
        yield rows.paper, (machine, stands, aim)
        yield rows.shows, (machine, stands, aim, rows.paper(machine, stands, aim) or [((0, 1),)])
        yield costs.cheapest, (machine, stands, aim, (3, 1, 2)[:machine.letters])
        yield costs.cheapest, (machine, stands, aim, [1] * machine.letters)
    for aim in TREE_AIMS:
        yield trees.tree, (machine, stands, aim)
        yield trees.least_depth, (machine, stands, aim)
        yield trees.depth_of, (machine, stands, aim, trees.tree(machine, stands, aim) or [0])
    yield from lead_questions(machine, stands)
    yield watched, (machine, stands, [(0, 0), (1, 1), (1, 0), (True, 0), (0, 1), (0, 0)])
    yield owns.own_rows, (machine, stands)
    for stand in stands:
        yield owns.own_row, (machine, stands, stand)


def lead_questions(machine, stands):
    for goal in range(len(machine) + 1):
        yield leading.lead, (machine, stands, goal)
        yield leading.least_lead, (machine, stands, goal)
        yield leading.lead_depth, (machine, stands, goal, (0, ((0, ()), (1, ()))))
        yield leading.lead_depth, (machine, stands, goal, [0, {0: ()}])


def side_questions(machine):
    for some in itertools.product((None, 0, 1), repeat=len(machine)):
        value = [(tuple(enumerate(some)),), [0], {0: [1]}]
        yield sides.least_side_row, (machine, some)
        yield sides.side_paper, (machine, some)
        yield sides.tells_side, (machine, some, (0, 1))
        yield sides.tells_side, (machine, list(some), [0, 1])
        yield sides.side_shows, (machine, some, value)
        if set(some) != {None}:
            yield sides.side_shows, (machine, some, sides.side_paper(machine, some) or value)


def fault_questions(machine):
    yield faults.never_seen, (machine,)
    for row in ((), (0, 1, 0), (1, 1), [0], (0, 7)):
        yield faults.count_seen, (machine, row)
        yield faults.is_seen, (machine, (0, 0, 0, 1), row)
        yield faults.is_seen, (machine, (0, 1, 1, 0), row)
    for change in ((0, 0, 0, 1), (0, 1, 1, 0), (1, 0, 0, 3), (1, 0, 0, True), [0, 0, 0, 1]):
        yield faults.least_seen, (machine, change)


def questions(machine):
    """All questions about a machine: what is called, and with what."""
    yield from side_questions(machine)
    yield from fault_questions(machine)
    yield apart.alike, (machine,)
    yield census.census, (1, 2)
    for one, other in itertools.product(range(len(machine)), repeat=2):
        yield apart.told_apart, (machine, one, other)
    for stand in range(len(machine)):
        yield machines.walk, (machine, stand, (0, 1, 0))
    yield from text_questions(machine)
    for stands in subsets(len(machine)):
        yield from stands_questions(machine, stands)


def as_values(values):
    """The same with tables in the places of machines, so that it can be compared with a copy."""
    return [value.table if isinstance(value, Machine) else value for value in values]


def spoil(answer):
    """Change all lists of an answer."""
    if isinstance(answer, list):
        for part in answer:
            spoil(part)
        answer.append("spoilt")
        answer.reverse()


class RepeatedQuestionsTest(unittest.TestCase):
    def ask(self, machine):
        answers = []
        for call, values in questions(machine):
            before = copy.deepcopy(as_values(values))
            try:
                answer = call(*values)
            except StandError as error:
                answer = [type(error), vars(error)]
            self.assertEqual(as_values(values), before)
            answers.append(copy.deepcopy(answer))
            spoil(answer)
            self.assertEqual(as_values(values), before)
        return answers

    def test_one_machine_another_one_and_the_first_one_again(self):
        source = random.Random(91)
        for stands, letters, lacks in itertools.product((2, 3, 4), (2, 3), (0, 2)):
            one = Machine(random_table(source, stands, letters, lacks, 2))
            other = Machine(random_table(source, stands, letters, lacks, 2))
            table = one.table
            first = self.ask(one)
            unlike = self.ask(other)
            self.assertEqual(self.ask(one), first)
            self.assertEqual(self.ask(Machine(copy.deepcopy(table))), first)
            self.assertEqual(self.ask(other), unlike)
            self.assertEqual(one.table, table)

    def test_a_list_that_is_returned_is_no_list_that_was_passed(self):
        same = Machine((((0, 0), (1, 1)), ((1, 0), (0, 1))))
        value = rows.paper(same, (0, 1), "last")
        rows.shows(same, (0, 1), "last", value)
        self.assertIsNot(rows.paper(same, (0, 1), "last"), value)


class InterfaceTest(unittest.TestCase):
    def test_functions_with_their_arguments(self):
        for module, functions in FUNCTIONS.items():
            for name, arguments in functions.items():
                function = getattr(module, name)
                self.assertTrue(inspect.isfunction(function), name)
                self.assertEqual(function.__module__, module.__name__, name)
                self.assertEqual(list(inspect.signature(function).parameters), arguments.split(), name)

    def test_classes_with_their_methods(self):
        for kind, (arguments, methods, properties) in CLASSES.items():
            self.assertEqual(list(inspect.signature(kind).parameters), arguments.split())
            for name, values in methods.items():
                method = vars(kind)[name]
                self.assertTrue(inspect.isfunction(method), name)
                self.assertEqual(list(inspect.signature(method).parameters)[1:], values.split(), name)
            for name in properties:
                self.assertIsInstance(vars(kind)[name], property)

    def test_each_is_defined_in_the_file_that_the_interface_names(self):
        self.assertEqual(machines.Machine.__module__, "whichstand.machines")
        self.assertEqual(watches.Watch.__module__, "whichstand.watches")
        self.assertEqual(errors.StandError.__module__, "whichstand.errors")

    def test_an_object_is_equal_to_nothing_of_another_kind(self):
        machine = Machine((((0, 0), (0, 0)),))
        watch = watches.Watch(machine, (0,))
        for one, other in itertools.permutations([machine, watch, machine.table, [0], None, 0, True, "", {}], 2):
            if machine in (one, other) or watch in (one, other):
                self.assertFalse(one == other)
                self.assertTrue(one != other)

    def test_no_clock_no_randomness_and_no_files(self):
        folder = pathlib.Path(whichstand.__file__).parent
        names = {path.name for path in folder.iterdir() if path.name != "__pycache__"}
        self.assertEqual({name for name in names if not name.endswith(".py")}, set())
        for name in names:
            module = ast.parse((folder / name).read_text())
            for node in ast.walk(module):
                self.assertNotIsInstance(node, ast.Import, name)
                if isinstance(node, ast.ImportFrom):
                    own = node.module.startswith("whichstand.")
                    self.assertTrue(own or node.module == "heapq", (name, node.module))
                if isinstance(node, ast.Name):
                    self.assertNotIn(node.id, ("open", "print", "input", "exec", "eval", "hash", "id"), name)
            if name != "__init__.py":
                importlib.import_module("whichstand." + name[:-3])


if __name__ == "__main__":
    unittest.main()
