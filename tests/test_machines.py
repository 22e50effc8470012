import copy
import itertools
import unittest

from whichstand.errors import BadRow, BadStand, BadTable
from whichstand.machines import Machine, walk

GOOD = ((0, 0), (0, 1))

# Neither a tuple nor an integer, whatever is asked for.
ODD_VALUES = ([], [0], [(0, 0)], {}, {0: 0}, "", "0", "01", None, True, False)


class MachineTest(unittest.TestCase):
    def refuse(self, table, index):
        before = copy.deepcopy(table)
        with self.assertRaises(BadTable, msg=repr(table)) as caught:
            Machine(table)
        self.assertEqual(caught.exception.index, index, repr(table))
        self.assertIs(type(caught.exception.index), type(index), repr(table))
        self.assertEqual(table, before)

    def test_one_to_six_stands_of_two_and_three_letters(self):
        for stands, letters in itertools.product(range(1, 7), (2, 3)):
            table = tuple(
                tuple(((stand + letter) % stands, (stand + letter) % 4) for letter in range(letters))
                for stand in range(stands)
            )
            machine = Machine(table)
            self.assertEqual(machine.table, table)
            self.assertIs(type(machine.table), tuple)
            self.assertEqual(machine.letters, letters)
            self.assertEqual(len(machine), stands)

    def test_steps_may_lack(self):
        for letters in (2, 3):
            lacking = (None,) * letters
            for stands in range(1, 7):
                table = (lacking,) * stands
                machine = Machine(table)
                self.assertEqual((machine.table, machine.letters, len(machine)), (table, letters, stands))
        mixed = (((1, 3), None, (2, 0)), (None, None, None), (None, (0, 2), None))
        machine = Machine(mixed)
        self.assertEqual((machine.table, machine.letters, len(machine)), (mixed, 3, 3))

    def test_each_stand_and_each_letter_may_stand_in_a_step(self):
        for following, written in itertools.product(range(6), range(4)):
            table = (GOOD,) * 5 + (((following, written), None),)
            self.assertEqual(Machine(table).table, table)

    def test_properties_are_read_only(self):
        machine = Machine((GOOD,))
        for name in ("table", "letters"):
            with self.assertRaises(AttributeError):
                setattr(machine, name, 1)

    def test_no_tuple(self):
        for value in ODD_VALUES + (0, 1, 6, -1, [GOOD], {0: GOOD}, "ab", [GOOD, GOOD]):
            self.refuse(value, None)

    def test_no_rows_and_seven_rows(self):
        self.refuse((), None)
        self.refuse((GOOD,) * 7, None)
        self.refuse((None,) * 7, None)
        self.refuse((GOOD,) * 20, None)

    def test_a_row_that_is_no_tuple(self):
        for value in ODD_VALUES + (0, 1, 2, list(GOOD), {0: GOOD[0], 1: GOOD[1]}):
            self.refuse((value,), 0)
            self.refuse((value, GOOD), 0)
            self.refuse((GOOD, value), 1)
            self.refuse((GOOD,) * 5 + (value,), 5)

    def test_a_first_row_of_no_one_and_four_steps(self):
        for many in (0, 1, 4, 5):
            for step in (None, (0, 0)):
                row = (step,) * many
                self.refuse((row,), 0)
                self.refuse((row, row), 0)
                self.refuse((row, GOOD), 0)

    def test_a_later_row_with_another_number_of_steps(self):
        two = (None, (0, 0))
        three = (None, (0, 0), (0, 1))
        self.refuse((two, three), 1)
        self.refuse((three, two), 1)
        self.refuse((two, two, three, two), 2)
        self.refuse((three, three, three, three, three, two), 5)
        for many in (0, 1, 4):
            self.refuse((two, (None,) * many), 1)
            self.refuse((three, three, (None,) * many), 2)

    def test_bad_steps(self):
        steps = [
            [0, 0], [], (), (0,), (0, 0, 0), {}, {0: 0}, "", "00", 0, 1, True, False,
            (-1, 0), (3, 0), (4, 0), (0, -1), (0, 4), (0, 5), (6, 0), (10 ** 30, 0), (0, -(10 ** 30)),
            (True, 0), (False, 0), (0, True), (0, False), (True, True),
            (None, 0), (0, None), (None, None), ("0", 0), (0, "0"), ([0], 0), (0, (0,)), ((0,), 0),
        ]
        for step in steps:
            for letters in (2, 3):
                good = ((0, 0),) * letters
                for index, letter in itertools.product(range(3), range(letters)):
                    rows = [good, good, good]
                    rows[index] = good[:letter] + (step,) + good[letter + 1:]
                    self.refuse(tuple(rows), index)

    def test_the_number_of_stands_is_that_of_this_table(self):
        for stands in range(1, 7):
            rows = [GOOD] * stands
            rows[-1] = ((stands - 1, 0), None)
            self.assertEqual(len(Machine(tuple(rows))), stands)
            rows[-1] = ((stands, 0), None)
            self.refuse(tuple(rows), stands - 1)

    def test_of_several_faults_the_first_index_counts(self):
        wrong = ((0, 4), None)
        three = (None, None, None)
        self.refuse((wrong, three), 0)
        self.refuse((GOOD, three, wrong), 1)
        self.refuse((GOOD, wrong, three), 1)
        self.refuse((GOOD, GOOD, [], wrong), 2)
        self.refuse((GOOD, GOOD, wrong, []), 2)
        self.refuse(([], wrong, three), 0)
        self.refuse((GOOD, wrong, wrong, GOOD, wrong), 1)
        self.refuse([wrong, wrong], None)
        self.refuse((wrong,) * 7, None)

    def test_equality(self):
        table = (((0, 0), (1, 0)), ((0, 1), None))
        machine = Machine(table)
        same = Machine((((0, 0), (1, 0)), ((0, 1), None)))
        self.assertTrue(machine == machine)
        self.assertTrue(machine == same)
        self.assertFalse(machine != same)
        others = [
            (((0, 0), (1, 0)), ((0, 1), (0, 0))),
            (((0, 0), (1, 0)), ((0, 2), None)),
            (((0, 0), (1, 0)), ((1, 1), None)),
            (((0, 0), (0, 0)),),
            (((0, 0), (1, 0)), ((0, 1), None), (None, None)),
            (((0, 0), (1, 0), None), ((0, 1), None, None)),
            (((0, 1), None), ((0, 0), (1, 0))),
        ]
        for other in others:
            self.assertFalse(machine == Machine(other))
            self.assertTrue(machine != Machine(other))

    def test_equal_to_nothing_of_another_kind(self):
        class Alike:
            def __init__(self, table):
                self.table = table
                self._table = table
                self.letters = len(table[0])

        table = (((0, 0), (1, 0)), ((0, 1), None))
        machine = Machine(table)
        for other in (table, list(table), None, 2, True, "", {}, Alike(table), [machine]):
            self.assertFalse(machine == other)
            self.assertFalse(other == machine)
            self.assertTrue(machine != other)


class WalkTest(unittest.TestCase):
    def setUp(self):
        self.machine = Machine((((0, 0), (1, 0)), ((0, 1), None)))
        # Stand 2 reads 0 and 2, stand 1 reads 0 and 1, stand 0 reads them all.
        self.wide = Machine((
            ((1, 3), (0, 2), (2, 1)),
            ((2, 0), (1, 1), None),
            ((0, 2), None, (1, 3)),
        ))

    def refuse_row(self, machine, row, index):
        before = copy.deepcopy(row)
        for stand in range(len(machine)):
            with self.assertRaises(BadRow, msg=repr(row)) as caught:
                walk(machine, stand, row)
            self.assertEqual(caught.exception.index, index, repr(row))
            self.assertIs(type(caught.exception.index), type(index), repr(row))
        self.assertEqual(row, before)

    def test_example(self):
        machine = self.machine
        found = [walk(machine, 0, (1, 0)), walk(machine, 1, (0, 1)), walk(machine, 1, (1,))]
        self.assertEqual(found, [(0, (0, 1)), (1, (1, 0)), None])

    def test_the_empty_row(self):
        for stand in range(3):
            self.assertEqual(walk(self.wide, stand, ()), (stand, ()))
        self.assertEqual(walk(Machine(((None, None),)), 0, ()), (0, ()))

    def test_each_letter_leads_on_and_writes(self):
        self.assertEqual(walk(self.wide, 0, (0, 0, 0, 0)), (1, (3, 0, 2, 3)))
        self.assertEqual(walk(self.wide, 0, (1, 2, 2, 1, 0)), (2, (2, 1, 3, 1, 0)))
        self.assertEqual(walk(self.wide, 2, (2, 1, 1, 0, 0)), (0, (3, 1, 1, 0, 2)))
        self.assertEqual(walk(self.wide, 1, (0, 2)), (1, (0, 3)))

    def test_kinds_of_the_answer(self):
        answer = walk(self.wide, 0, (0, 0))
        self.assertIs(type(answer), tuple)
        self.assertIs(type(answer[1]), tuple)

    def test_a_step_lacks_at_the_first_a_middle_and_the_last_letter(self):
        self.assertIsNone(walk(self.wide, 1, (2, 0, 0)))
        self.assertIsNone(walk(self.wide, 0, (0, 2, 0)))
        self.assertIsNone(walk(self.wide, 0, (1, 0, 0, 1, 0)))
        self.assertIsNone(walk(self.wide, 0, (1, 0, 2)))
        self.assertIsNone(walk(self.wide, 2, (1,)))
        nothing = Machine(((None, None), (None, None)))
        for stand, letter in itertools.product(range(2), range(2)):
            self.assertIsNone(walk(nothing, stand, (letter,)))

    def test_forty_letters_and_more(self):
        row = (0, 1) * 20
        self.assertEqual(walk(self.machine, 1, row), (1, (1, 0) * 20))
        self.assertEqual(walk(self.machine, 0, (0,) * 40), (0, (0,) * 40))
        self.refuse_row(self.machine, row + (0,), None)
        self.refuse_row(self.machine, (0,) * 41, None)
        self.refuse_row(self.machine, (9,) * 41, None)
        self.refuse_row(self.machine, (0,) * 100, None)

    def test_bad_stands(self):
        bad = ODD_VALUES + (-1, -2, 10 ** 30, (), (0,), ("0",))
        for machine in (self.machine, self.wide):
            for stand in bad + (len(machine), len(machine) + 1):
                with self.assertRaises(BadStand, msg=repr(stand)):
                    walk(machine, stand, (0,))
                with self.assertRaises(BadStand, msg=repr(stand)):
                    walk(machine, stand, ())

    def test_a_row_that_is_no_tuple(self):
        for value in ODD_VALUES + (0, 1, -1, [0, 1], {0: 1}, "01", [5]):
            self.refuse_row(self.machine, value, None)

    def test_bad_letters(self):
        for machine in (self.machine, self.wide):
            bad = ODD_VALUES + (-1, machine.letters, machine.letters + 1, 10 ** 30, (), (0,))
            for letter in bad:
                self.refuse_row(machine, (letter,), 0)
                self.refuse_row(machine, (0, letter, 0), 1)
                self.refuse_row(machine, (0,) * 39 + (letter,), 39)

    def test_of_several_bad_letters_the_first_counts(self):
        self.refuse_row(self.machine, (0, 0, 2, -1, True), 2)
        self.refuse_row(self.machine, (0, True, 5), 1)
        self.refuse_row(self.machine, (None, 2), 0)

    def test_a_bad_letter_counts_behind_a_step_that_lacks(self):
        self.refuse_row(self.machine, (1, 1, 2), 2)
        self.refuse_row(Machine(((None, None),)), (0, 0, 7), 2)

    def test_bad_stand_is_raised_ahead_of_bad_row(self):
        for stand in (-1, 2, True, None, "0", [0]):
            for row in (None, [0], (5,), (True,), (0,) * 41):
                with self.assertRaises(BadStand):
                    walk(self.machine, stand, row)

    def test_repeated_calls_and_calls_after_errors(self):
        table = self.wide.table
        first = walk(self.wide, 0, (0, 0, 0))
        with self.assertRaises(BadRow):
            walk(self.wide, 0, (0, 0, 9))
        with self.assertRaises(BadStand):
            walk(self.wide, 3, (0,))
        self.assertEqual(walk(self.wide, 0, (0, 0, 0)), first)
        self.assertEqual(self.wide.table, table)
        self.assertEqual(self.wide, Machine(table))


if __name__ == "__main__":
    unittest.main()
