"""What point 1 promises over all questions that the document has."""

import copy
import itertools
import unittest

from direct import AIMS, random_table, subsets
import random

from whichstand import apart, census, machines, owns, rows, texts, trees, watches
from whichstand.errors import StandError
from whichstand.machines import Machine

TREE_AIMS = ("first", "last")


def watched(machine, stands, deeds):
    """What a watch tells over some deeds; those that are refused are told, too."""
    watch = watches.Watch(machine, stands)
    told = [watch.lasts(), watch.firsts(), watch.can_read(), len(watch)]
    for letter, wrote in deeds:
        try:
            told.append(watch.see(letter, wrote))
        except StandError as error:
            told.append(type(error).__name__)
        told.extend([watch.lasts(), watch.firsts(), watch.can_read(), len(watch)])
    twin = watch.copy()
    told.extend([watch.undo(), watch.lasts(), twin.lasts(), twin.firsts(), len(twin)])
    return told


def text_questions(machine):
    text = texts.write(machine)
    yield texts.write, (machine,)
    yield lambda value: texts.read(value).table, (text,)
    yield lambda value: texts.read(value).table, (text.replace(":", " "),)


def stands_questions(machine, stands):
    """All questions about a machine that can be in some stands at first."""
    letters = range(machine.letters)
    row = tuple(letters)
    for aim in AIMS:
        yield rows.reaches, (machine, stands, aim, row)
        yield rows.least_row, (machine, stands, aim)
        yield rows.paper, (machine, stands, aim)
        yield rows.shows, (machine, stands, aim, rows.paper(machine, stands, aim) or [((0, 1),)])
    for aim in TREE_AIMS:
        yield trees.tree, (machine, stands, aim)
        yield trees.least_depth, (machine, stands, aim)
        yield trees.depth_of, (machine, stands, aim, trees.tree(machine, stands, aim) or [0])
    yield watched, (machine, stands, [(0, 0), (1, 1), (1, 0), (True, 0), (0, 1), (0, 0)])
    yield owns.own_rows, (machine, stands)
    for stand in stands:
        yield owns.own_row, (machine, stands, stand)


def questions(machine):
    """All questions about a machine: what is called, and with what."""
    yield apart.alike, (machine,)
    yield census.census, (1, 2)
    for one, other in itertools.product(range(len(machine)), repeat=2):
        yield apart.told_apart, (machine, one, other)
    for stand in range(len(machine)):
        yield machines.walk, (machine, stand, (0, 1, 0))
    yield from text_questions(machine)
    for stands in subsets(len(machine)):
        yield from stands_questions(machine, stands)


def as_values(values):
    """The same with tables in the places of machines, so that it can be compared with a copy."""
    return [value.table if isinstance(value, Machine) else value for value in values]


def spoil(answer):
    """Change all lists of an answer."""
    if isinstance(answer, list):
        for part in answer:
            spoil(part)
        answer.append("spoilt")
        answer.reverse()


class RepeatedQuestionsTest(unittest.TestCase):
    def ask(self, machine):
        answers = []
        for call, values in questions(machine):
            before = copy.deepcopy(as_values(values))
            try:
                answer = call(*values)
            except StandError as error:
                answer = [type(error), vars(error)]
            self.assertEqual(as_values(values), before)
            answers.append(copy.deepcopy(answer))
            spoil(answer)
            self.assertEqual(as_values(values), before)
        return answers

    def test_one_machine_another_one_and_the_first_one_again(self):
        source = random.Random(91)
        for stands, letters, lacks in itertools.product((2, 3, 4), (2, 3), (0, 2)):
            one = Machine(random_table(source, stands, letters, lacks, 2))
            other = Machine(random_table(source, stands, letters, lacks, 2))
            table = one.table
            first = self.ask(one)
            unlike = self.ask(other)
            self.assertEqual(self.ask(one), first)
            self.assertEqual(self.ask(Machine(copy.deepcopy(table))), first)
            self.assertEqual(self.ask(other), unlike)
            self.assertEqual(one.table, table)

    def test_a_list_that_is_returned_is_no_list_that_was_passed(self):
        same = Machine((((0, 0), (1, 1)), ((1, 0), (0, 1))))
        value = rows.paper(same, (0, 1), "last")
        rows.shows(same, (0, 1), "last", value)
        self.assertIsNot(rows.paper(same, (0, 1), "last"), value)


if __name__ == "__main__":
    unittest.main()
