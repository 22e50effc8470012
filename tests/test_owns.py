import itertools
import random
import unittest

from direct import (
    BAD_STAND, BAD_STANDS, LONG_WAY_OWN, Refusing, all_rows, all_tables, histories, random_table, read_row, subsets,
)
from whichstand.errors import BadStand, BadStands
from whichstand.machines import Machine, walk
from whichstand.owns import own_row, own_rows

# Three stands that write alike until stand 2 is reached.
CHAIN = Machine((((1, 0), (0, 0)), ((2, 0), (0, 0)), ((2, 1), (0, 0))))
SAME = Machine((((0, 0), (1, 1)), ((1, 0), (0, 1))))


def is_own(table, stands, stand, row):
    """Tell by the words of point 11 whether a row is one for which a stand alone writes as it does."""
    ends = {one: read_row(table, one, row) for one in stands}
    if None in ends.values():
        return False
    return all(ends[one][1] != ends[stand][1] for one in stands if one != stand)


def expected_own(stands, stand, states):
    """The same of all states of knowledge, in the order of their rows."""
    at = stands.index(stand)
    for state, row in states.items():
        groups = [group for _, group in state]
        if groups.count(groups[at]) == 1:
            return row
    return None


class OwnRowTest(unittest.TestCase):
    def check(self, table):
        machine = Machine(table)
        for stands in subsets(len(table)):
            states = histories(table, stands)
            wanted = [expected_own(stands, stand, states) for stand in stands]
            self.assertEqual([own_row(machine, stands, stand) for stand in stands], wanted, (table, stands))
            self.assertEqual(own_rows(machine, stands), wanted, (table, stands))

    def test_example(self):
        self.assertEqual(own_row(CHAIN, (0, 1, 2), 1), (0, 0))
        self.assertEqual(own_rows(CHAIN, (0, 1, 2)), [(0, 0), (0, 0), (0,)])
        self.assertEqual(own_rows(CHAIN, (0,)), [()])
        self.assertIsNone(own_row(SAME, (0, 1), 0))

    def test_one_stand_only(self):
        nothing = Machine(((None, None, None), (None, None, None)))
        for machine in (CHAIN, SAME, nothing):
            for stand in range(len(machine)):
                self.assertEqual(own_row(machine, (stand,), stand), ())
                self.assertEqual(own_rows(machine, (stand,)), [()])

    def test_none_where_there_is_none(self):
        for stand in (0, 1):
            self.assertIsNone(own_row(SAME, (0, 1), stand))
        self.assertEqual(own_rows(SAME, (0, 1)), [None, None])
        self.assertEqual(own_rows(Machine(((None, None), (None, None))), (0, 1)), [None, None])

    def test_two_that_write_alike_beside_one_that_does_not(self):
        machine = Machine((((0, 0), (1, 1)), ((1, 0), (0, 1)), ((2, 0), (2, 0))))
        self.assertEqual(own_rows(machine, (0, 1, 2)), [None, None, (1,)])
        self.assertEqual(own_rows(machine, (0, 2)), [(1,), (1,)])
        self.assertEqual(own_rows(machine, (0, 1)), [None, None])

    def test_a_stand_that_another_one_comes_to(self):
        # The letter 0 brings 0 and 1 together, while both write alike.
        machine = Machine((((2, 0), (0, 0)), ((2, 0), (1, 1)), ((2, 1), (2, 2))))
        self.assertEqual(own_row(machine, (0, 1), 0), (1,))
        met = Machine((((2, 0), (0, 0)), ((2, 0), (1, 0)), ((2, 1), (2, 2))))
        self.assertEqual(own_rows(met, (0, 1, 2)), [None, None, (0,)])
        # Others may come together, and one that is told already may come to where this one is.
        self.assertEqual(own_rows(CHAIN, (0, 2)), [(0,), (0,)])
        turn = Machine((((1, 0), (0, 0)), ((1, 1), (1, 0)), ((1, 0), (2, 1))))
        self.assertEqual(own_rows(turn, (0, 1, 2)), [(1, 0), (0,), (1,)])
        self.check(turn.table)

    def test_a_step_that_lacks_at_one_that_is_told_already(self):
        # The letter 1 would tell 0 from 1, but stand 2 lacks it, also once it is told.
        machine = Machine((((0, 0), (0, 0)), ((1, 0), (1, 1)), ((2, 1), None)))
        self.assertEqual(own_rows(machine, (0, 1, 2)), [None, None, (0,)])
        self.assertEqual(own_rows(machine, (0, 1)), [(1,), (1,)])
        self.assertEqual(own_rows(machine, (1, 2)), [(0,), (0,)])
        # It lacks for the one that is asked for.
        self.assertIsNone(own_row(Machine((((0, 0), None), ((1, 0), (1, 1)))), (0, 1), 0))
        self.assertIsNone(own_row(Machine((((0, 0), None), ((1, 0), (1, 1)))), (0, 1), 1))

    def test_the_least_of_several_shortest_rows(self):
        machine = Machine((((0, 0), (0, 0), (0, 0)), ((1, 0), (1, 1), (1, 1))))
        self.assertEqual(own_rows(machine, (0, 1)), [(1,), (1,)])
        shorter = Machine((((2, 0),) * 2 + ((0, 0),), ((3, 0),) * 2 + ((1, 1),), ((2, 2),) * 3, ((3, 3),) * 3))
        self.assertEqual(own_rows(shorter, (0, 1)), [(2,), (2,)])

    def test_all_machines_of_two_stands_against_all_rows(self):
        # There are four pairs of stands, so the least row has at most four letters.
        for table in all_tables(2, (None, (0, 0), (1, 0), (0, 1), (1, 1))):
            machine = Machine(table)
            for stands in subsets(2):
                for stand in stands:
                    rows = (row for row in all_rows(2, 4) if is_own(table, stands, stand, row))
                    self.assertEqual(own_row(machine, stands, stand), next(rows, None), (table, stands, stand))

    def test_machines_of_three_stands_against_all_rows(self):
        source = random.Random(61)
        for lacks, most_written in itertools.product((0, 2, 4), (1, 2)):
            for _ in range(15):
                table = random_table(source, 3, 2, lacks, most_written)
                for stands in subsets(3):
                    for stand in stands:
                        rows = (row for row in all_rows(2, 8) if is_own(table, stands, stand, row))
                        found = own_row(Machine(table), stands, stand)
                        self.assertEqual(found, next(rows, None), (table, stands, stand))

    def test_machines_of_up_to_six_stands_for_each_stand_by_itself(self):
        source = random.Random(62)
        for lacks, most_written, letters in itertools.product((0, 1, 3), (1, 2, 4), (2, 3)):
            for stands in range(1, 7):
                for _ in range(4 if stands < 6 else 1):
                    self.check(random_table(source, stands, letters, lacks, most_written))

    def test_no_row_has_more_than_forty_letters(self):
        machine = Machine(LONG_WAY_OWN)
        for stands, stand, length in (((0, 1, 2, 3, 4), 0, 47), ((0, 1, 3, 4, 5), 4, 42)):
            self.assertEqual(len(expected_own(stands, stand, histories(LONG_WAY_OWN, stands))), length)
            self.assertIsNone(own_row(machine, stands, stand))
        # The letters of the row for stand 0 one by one: what is left of it gets shorter.
        row = expected_own((0, 1, 2, 3, 4), 0, histories(LONG_WAY_OWN, (0, 1, 2, 3, 4)))
        for read, length in ((6, 41), (7, 40), (8, 39)):
            stands = tuple(sorted({walk(machine, stand, row[:read])[0] for stand in range(5)}))
            stand = walk(machine, 0, row[:read])[0]
            self.assertEqual(expected_own(stands, stand, histories(LONG_WAY_OWN, stands)), row[read:])
            self.assertEqual(len(row[read:]), length)
            self.assertEqual(own_row(machine, stands, stand), row[read:] if length <= 40 else None)

    def test_kinds_of_the_answers(self):
        row = own_row(CHAIN, (0, 1, 2), 1)
        self.assertIs(type(row), tuple)
        self.assertEqual({type(letter) for letter in row}, {int})
        self.assertIs(type(own_rows(CHAIN, (0, 1, 2))), list)

    def test_a_new_list_at_each_call(self):
        first = own_rows(CHAIN, (0, 1, 2))
        second = own_rows(CHAIN, (0, 1, 2))
        self.assertIsNot(first, second)
        first.clear()
        self.assertEqual(second, [(0, 0), (0, 0), (0,)])
        self.assertEqual(own_rows(CHAIN, (0, 1, 2)), second)


class RefusalsTest(Refusing, unittest.TestCase):
    def test_bad_stands(self):
        for stands in BAD_STANDS:
            self.refuse(BadStands, own_rows, CHAIN, stands)
            self.refuse(BadStands, own_row, CHAIN, stands, 0)

    def test_bad_stands_go_ahead_of_bad_stand(self):
        for stands, stand in itertools.product(BAD_STANDS, BAD_STAND):
            self.refuse(BadStands, own_row, CHAIN, stands, stand)

    def test_values_that_are_none_of_the_stands(self):
        for stands, stand in itertools.product(subsets(3), BAD_STAND):
            self.refuse(BadStand, own_row, CHAIN, stands, stand)

    def test_a_stand_of_the_machine_that_is_not_among_them(self):
        for stands in subsets(3):
            for stand in range(3):
                if stand not in stands:
                    self.refuse(BadStand, own_row, CHAIN, stands, stand)
                else:
                    own_row(CHAIN, stands, stand)

    def test_true_is_none_of_the_stands_where_1_is(self):
        self.refuse(BadStand, own_row, CHAIN, (0, 1), True)
        self.refuse(BadStand, own_row, CHAIN, (0, 1), False)
        self.assertEqual(own_row(CHAIN, (0, 1), 1), (0, 0))

    def test_calls_after_errors(self):
        before = own_rows(CHAIN, (0, 1, 2))
        self.refuse(BadStands, own_rows, CHAIN, (3,))
        self.refuse(BadStand, own_row, CHAIN, (0, 1), 2)
        self.assertEqual(own_rows(CHAIN, (0, 1, 2)), before)


if __name__ == "__main__":
    unittest.main()
