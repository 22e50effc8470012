import itertools
import random
import unittest

from direct import BAD_ROWS, Refusing, all_rows, all_tables, random_table, read_row
from whichstand.errors import BadChange, BadRow
from whichstand.faults import count_seen, is_seen, least_seen, never_seen
from whichstand.machines import Machine

# Three stands that write alike until stand 2 is reached.
CHAIN = Machine((((1, 0), (0, 0)), ((2, 0), (0, 0)), ((2, 1), (0, 0))))
EVEN = Machine((((0, 0), (0, 0)), ((1, 0), (1, 0))))
# Stand 1 lacks the letter 1, stand 2 the letter 0; stand 2 is not come to from 0.
GAPS = Machine((((1, 0), (0, 1)), ((0, 2), None), (None, (2, 3))))

BAD_CHANGES = [
    # For CHAIN, for GAPS and for all machines of up to three stands and two letters.
    (), (0,), (0, 0), (0, 0, 0), (0, 0, 0, 1, 0), (0, 0, 2, 3, 0), [0, 0, 0, 1], [], {}, {0: 0}, "", "0001", "0",
    None, True, False, 0, 1, -1, (3, 0, 0, 1), (-1, 0, 0, 1), (10 ** 30, 0, 0, 1), (0, 2, 0, 1), (0, -1, 0, 1),
    (0, 0, 3, 1), (0, 0, -1, 1), (0, 0, 6, 1), (0, 0, 0, 4), (0, 0, 0, -1), (0, 0, 1, 10 ** 30),
    (True, 0, 0, 1), (False, 0, 0, 1), (0, True, 1, 1), (0, False, 0, 1), (0, 0, True, 1), (0, 0, False, 1),
    (0, 0, 0, True), (0, 0, 0, False), (None, 0, 0, 1), (0, None, 0, 1), (0, 0, None, 1), (0, 0, 0, None),
    ("0", 0, 0, 1), (0, "0", 0, 1), (0, 0, "0", 1), (0, 0, 0, "1"), ((0,), 0, 0, 1), (0, (0,), 0, 1),
    (0, 0, (0,), 1), (0, 0, 0, (1,)), ([0], 0, 0, 1), (0, [], 0, 1), (0, 0, {}, 1), (0, 0, 0, [1]),
    (0, 0, (0, 1)), ((0, 0), (0, 1)), ((0, 0, 0, 1),), (0, 0, None, None), (0, 0, None),
]


def changes_of(table):
    """All changes of a table, ascending, by the words of point 16."""
    every = itertools.product(range(len(table)), range(len(table[0])), range(len(table)), range(4))
    return [
        (stand, letter, following, wrote)
        for stand, letter, following, wrote in every
        if table[stand][letter] is not None and table[stand][letter] != (following, wrote)
    ]


def row_shows(table, change, row):
    """Tell by the words of point 16 whether a row shows a change, None if the machine cannot read it."""
    stand, letter, following, wrote = change
    changed = [list(steps) for steps in table]
    changed[stand][letter] = (following, wrote)
    end = read_row(table, 0, row)
    if end is None:
        return None
    other = read_row(changed, 0, row)
    return other is None or other[1] != end[1]


class IsSeenTest(unittest.TestCase):
    def check(self, machine, change, row, answer):
        self.assertIs(is_seen(machine, change, row), answer, (machine.table, change, row))
        self.assertIs(row_shows(machine.table, change, row), answer, (machine.table, change, row))

    def test_example(self):
        self.assertEqual([is_seen(CHAIN, (0, 0, 1, 1), (0,)), is_seen(CHAIN, (0, 0, 0, 0), (0, 0))], [True, False])

    def test_another_written_letter(self):
        for wrote in (1, 2, 3):
            self.check(CHAIN, (0, 0, 1, wrote), (), False)
            self.check(CHAIN, (0, 0, 1, wrote), (0,), True)
            self.check(CHAIN, (0, 0, 1, wrote), (1,), False)
            self.check(CHAIN, (0, 0, 1, wrote), (1, 1, 0), True)
            self.check(CHAIN, (1, 0, 2, wrote), (0,), False)
            self.check(CHAIN, (1, 0, 2, wrote), (0, 0, 0), True)

    def test_another_next_stand(self):
        self.check(CHAIN, (0, 0, 0, 0), (0, 0), False)
        self.check(CHAIN, (0, 0, 0, 0), (0, 0, 0), True)
        self.check(CHAIN, (0, 0, 2, 0), (0,), False)
        self.check(CHAIN, (0, 0, 2, 0), (0, 0), True)
        self.check(CHAIN, (0, 0, 2, 0), (0, 1, 1, 1), False)
        self.check(CHAIN, (2, 0, 0, 1), (0, 0, 0), False)
        self.check(CHAIN, (2, 0, 0, 1), (0, 0, 0, 0), True)

    def test_both(self):
        self.check(CHAIN, (0, 0, 2, 3), (0,), True)
        self.check(CHAIN, (0, 0, 2, 3), (1, 1), False)
        self.check(CHAIN, (0, 0, 0, 1), (0,), True)
        # The changed stand writes as much, but elsewhere.
        self.check(CHAIN, (1, 0, 0, 1), (0, 0), True)

    def test_a_row_that_the_machine_cannot_read(self):
        for change in changes_of(GAPS.table):
            self.check(GAPS, change, (0, 1), None)
            self.check(GAPS, change, (1, 0, 1, 0), None)
            self.check(GAPS, change, (1, 1, 1, 0, 0, 0, 1), None)
        nothing = Machine((((0, 0), None),))
        self.check(nothing, (0, 0, 0, 1), (1,), None)
        self.check(nothing, (0, 0, 0, 1), (0,), True)
        self.check(nothing, (0, 0, 0, 1), (0, 1), None)

    def test_a_changed_machine_that_lacks_a_step(self):
        # Instead of in stand 0 the changed machine is in stand 1, which lacks the letter 1.
        self.check(GAPS, (0, 1, 1, 1), (1,), False)
        self.check(GAPS, (0, 1, 1, 1), (1, 1), True)
        self.check(GAPS, (0, 1, 1, 1), (1, 0), True)
        # It is in stand 2, which lacks the letter 0.
        self.check(GAPS, (0, 1, 2, 1), (1, 0), True)
        self.check(GAPS, (0, 1, 2, 1), (1, 1), True)
        # The machine itself lacks the step, so nothing is told.
        self.check(GAPS, (0, 0, 0, 0), (0, 1), None)

    def test_against_the_words_of_the_document(self):
        source = random.Random(111)
        met = set()
        for stands, letters, lacks in itertools.product(range(1, 7), (2, 3), (0, 2, 4)):
            machine = Machine(random_table(source, stands, letters, lacks, 2))
            changes = changes_of(machine.table)
            for change in source.sample(changes, min(30, len(changes))):
                for row in all_rows(letters, 4):
                    wanted = row_shows(machine.table, change, row)
                    met.add(wanted)
                    self.assertIs(is_seen(machine, change, row), wanted, (machine.table, change, row))
        self.assertEqual(met, {True, False, None})

    def test_forty_letters(self):
        self.check(CHAIN, (0, 0, 2, 0), (1,) * 40, False)
        self.check(CHAIN, (0, 0, 1, 1), (1,) * 39 + (0,), True)
        with self.assertRaises(BadRow):
            is_seen(CHAIN, (0, 0, 1, 1), (1,) * 41)


class LeastSeenTest(unittest.TestCase):
    def test_example(self):
        self.assertEqual(least_seen(CHAIN, (0, 0, 0, 0)), (0, 0, 0))

    def test_none_where_no_row_shows_the_change(self):
        self.assertIsNone(least_seen(EVEN, (0, 0, 1, 0)))
        # A stand that cannot be come to from 0.
        for wrote in range(4):
            for following in range(3):
                if (following, wrote) != (2, 3):
                    self.assertIsNone(least_seen(GAPS, (2, 1, following, wrote)))
        # From stand 0 nothing is ever read but the letter 0.
        stay = Machine((((0, 0), None), ((1, 1), (1, 2))))
        self.assertIsNone(least_seen(stay, (1, 0, 0, 0)))
        self.assertEqual(least_seen(stay, (0, 0, 1, 0)), (0, 0))

    def test_the_least_of_the_shortest(self):
        self.assertEqual(least_seen(CHAIN, (0, 0, 1, 1)), (0,))
        self.assertEqual(least_seen(CHAIN, (0, 1, 0, 1)), (1,))
        self.assertEqual(least_seen(CHAIN, (1, 0, 2, 3)), (0, 0))
        # Both (1, 0, 0) and (1, 1) show it, and of the shortest (1, 1) is the least.
        machine = Machine((((0, 0), (1, 0)), ((1, 0), (1, 1)), ((1, 0), (1, 2))))
        self.assertEqual(least_seen(machine, (0, 1, 2, 0)), (1, 1))
        # The changed machine lacks the step: a row that the machine can read shows it.
        self.assertEqual(least_seen(GAPS, (0, 1, 1, 1)), (1, 0))
        self.assertEqual(least_seen(GAPS, (0, 1, 2, 1)), (1, 0))

    def test_machines_of_two_stands_against_all_rows(self):
        # Two machines of two stands are in one of four pairs of stands.
        source = random.Random(112)
        for table in list(all_tables(2, (None, (0, 0), (1, 0), (0, 1), (1, 1))))[::4]:
            machine = Machine(table)
            changes = changes_of(table)
            for change in source.sample(changes, min(8, len(changes))):
                rows = (row for row in all_rows(2, 5) if row_shows(table, change, row))
                self.assertEqual(least_seen(machine, change), next(rows, None), (table, change))

    def test_machines_of_three_stands_against_all_rows(self):
        source = random.Random(113)
        for lacks, most_written in itertools.product((0, 2, 4), (1, 2)):
            for _ in range(4):
                table = random_table(source, 3, 2, lacks, most_written)
                changes = changes_of(table)
                for change in source.sample(changes, min(20, len(changes))):
                    rows = (row for row in all_rows(2, 9) if row_shows(table, change, row))
                    self.assertEqual(least_seen(Machine(table), change), next(rows, None), (table, change))

    def test_a_least_row_shows_it_and_no_row_of_fewer_letters_does(self):
        source = random.Random(114)
        for stands, letters in itertools.product(range(4, 7), (2, 3)):
            machine = Machine(random_table(source, stands, letters, 1, 2))
            for change in source.sample(changes_of(machine.table), 40):
                row = least_seen(machine, change)
                if row is not None:
                    self.assertIs(is_seen(machine, change, row), True)
                    self.assertFalse(any(row_shows(machine.table, change, less) for less in all_rows(letters, 5)
                                         if (len(less), less) < (len(row), row)))

    def test_kinds_of_the_answer(self):
        row = least_seen(CHAIN, (0, 0, 0, 0))
        self.assertIs(type(row), tuple)
        self.assertEqual({type(letter) for letter in row}, {int})


class NeverSeenTest(unittest.TestCase):
    def test_example(self):
        self.assertEqual([len(never_seen(EVEN)), never_seen(EVEN)[:2]], [16, [(0, 0, 1, 0), (0, 1, 1, 0)]])

    def test_a_stand_that_cannot_be_come_to(self):
        # All changes of stand 1, and those of stand 0 that lead to it: it writes as 0 does.
        found = never_seen(EVEN)
        self.assertEqual(found[2:], [change for change in changes_of(EVEN.table) if change[0] == 1])
        self.assertEqual([change for change in never_seen(GAPS) if change[0] == 2],
                         [change for change in changes_of(GAPS.table) if change[0] == 2])

    def test_a_step_that_cannot_be_read(self):
        # From stand 0 the letter 0 alone can be read, and leads back.
        machine = Machine((((0, 0), None), ((1, 1), (1, 2))))
        self.assertEqual(never_seen(machine), [change for change in changes_of(machine.table) if change[0] == 1])

    def test_no_step_at_all(self):
        self.assertEqual(never_seen(Machine(((None, None), (None, None)))), [])
        self.assertEqual(never_seen(Machine(((None, None), ((1, 0), None)))),
                         [(1, 0, 0, 0), (1, 0, 0, 1), (1, 0, 0, 2), (1, 0, 0, 3), (1, 0, 1, 1), (1, 0, 1, 2),
                          (1, 0, 1, 3)])

    def test_none_that_is_never_seen(self):
        self.assertEqual(never_seen(CHAIN), [])

    def test_against_all_changes_one_by_one(self):
        source = random.Random(115)
        for stands, letters, lacks in itertools.product(range(1, 7), (2, 3), (0, 2, 5)):
            machine = Machine(random_table(source, stands, letters, lacks, 2))
            changes = changes_of(machine.table)
            wanted = [change for change in changes if least_seen(machine, change) is None]
            self.assertEqual(never_seen(machine), wanted, machine.table)
            self.assertEqual(wanted, sorted(wanted))

    def test_against_all_rows(self):
        source = random.Random(116)
        for lacks in (0, 0, 2, 4):
            for _ in range(4):
                table = random_table(source, 2, 2, lacks, 2)
                wanted = [change for change in changes_of(table)
                          if not any(row_shows(table, change, row) for row in all_rows(2, 5))]
                self.assertEqual(never_seen(Machine(table)), wanted, table)

    def test_kinds_of_the_answer(self):
        found = never_seen(EVEN)
        self.assertIs(type(found), list)
        self.assertEqual({type(change) for change in found}, {tuple})
        self.assertEqual({type(part) for change in found for part in change}, {int})

    def test_a_new_list_at_each_call(self):
        first = never_seen(EVEN)
        second = never_seen(EVEN)
        self.assertIsNot(first, second)
        first.clear()
        self.assertEqual(len(second), 16)
        self.assertEqual(never_seen(EVEN), second)


class CountSeenTest(unittest.TestCase):
    def test_example(self):
        self.assertEqual([count_seen(CHAIN, (0,)), count_seen(CHAIN, ())], [9, 0])

    def test_none_where_the_machine_cannot_read_the_row(self):
        self.assertIsNone(count_seen(GAPS, (0, 1)))
        self.assertIsNone(count_seen(GAPS, (1, 0, 1)))
        self.assertIsNone(count_seen(Machine(((None, None),)), (0,)))
        self.assertEqual(count_seen(Machine(((None, None),)), ()), 0)

    def test_against_is_seen_change_by_change(self):
        source = random.Random(117)
        for stands, letters, lacks in itertools.product(range(1, 7), (2, 3), (0, 2, 4)):
            machine = Machine(random_table(source, stands, letters, lacks, 2))
            changes = changes_of(machine.table)
            rows = list(all_rows(letters, 4))
            for row in source.sample(rows, 8):
                wanted = None
                if read_row(machine.table, 0, row) is not None:
                    wanted = sum(is_seen(machine, change, row) for change in changes)
                self.assertEqual(count_seen(machine, row), wanted, (machine.table, row))

    def test_a_longer_row_shows_no_fewer(self):
        for length in range(40):
            fewer, more = [count_seen(CHAIN, ((0, 0, 1) * 14)[:many]) for many in (length, length + 1)]
            self.assertLessEqual(fewer, more)

    def test_kinds_of_the_answer(self):
        self.assertIs(type(count_seen(CHAIN, (0,))), int)
        self.assertIs(type(count_seen(CHAIN, ())), int)


class RefusalsTest(Refusing, unittest.TestCase):
    def test_bad_changes(self):
        for machine, change in itertools.product((CHAIN, GAPS), BAD_CHANGES):
            self.refuse(BadChange, least_seen, machine, change)
            self.refuse(BadChange, is_seen, machine, change, (0,))
            self.refuse(BadChange, is_seen, machine, change, ())

    def test_a_step_that_lacks(self):
        for following, wrote in itertools.product(range(3), range(4)):
            for stand, letter in ((1, 1), (2, 0)):
                self.refuse(BadChange, least_seen, GAPS, (stand, letter, following, wrote))
                self.refuse(BadChange, is_seen, GAPS, (stand, letter, following, wrote), (0,))

    def test_a_change_that_changes_nothing(self):
        for machine in (CHAIN, EVEN, GAPS):
            for stand, letter in itertools.product(range(len(machine)), range(2)):
                step = machine.table[stand][letter]
                if step is not None:
                    self.refuse(BadChange, least_seen, machine, (stand, letter, *step))
                    self.refuse(BadChange, is_seen, machine, (stand, letter, *step), (0,))

    def test_all_that_are_changes_and_no_others(self):
        for machine in (CHAIN, EVEN, GAPS, Machine((((0, 0), (0, 1), None),))):
            changes = changes_of(machine.table)
            for change in itertools.product(range(-1, 4), range(-1, 4), range(-1, 4), range(-1, 5)):
                if change in changes:
                    least_seen(machine, change)
                    is_seen(machine, change, ())
                else:
                    self.refuse(BadChange, least_seen, machine, change)
                    self.refuse(BadChange, is_seen, machine, change, ())

    def test_bad_rows(self):
        for row, index in BAD_ROWS:
            for call, values in ((is_seen, ((0, 0, 1, 1), row)), (count_seen, (row,))):
                error = self.refuse(BadRow, call, CHAIN, *values)
                self.assertEqual(error.index, index, row)
                self.assertIs(type(error.index), type(index), row)

    def test_bad_changes_go_ahead_of_bad_rows(self):
        for change, (row, _) in itertools.product(BAD_CHANGES, BAD_ROWS):
            self.refuse(BadChange, is_seen, CHAIN, change, row)

    def test_a_bad_letter_behind_a_step_that_lacks(self):
        self.assertEqual(self.refuse(BadRow, is_seen, GAPS, (0, 0, 0, 0), (0, 1, 2)).index, 2)
        self.assertEqual(self.refuse(BadRow, count_seen, GAPS, (0, 1, True)).index, 2)

    def test_calls_after_errors(self):
        before = never_seen(EVEN)
        self.refuse(BadChange, least_seen, EVEN, (0, 0, 0, 0))
        self.refuse(BadRow, count_seen, EVEN, (2,))
        self.assertEqual(never_seen(EVEN), before)
        self.assertEqual(count_seen(CHAIN, (0,)), 9)


if __name__ == "__main__":
    unittest.main()
