import functools
import itertools
import random
import unittest

from direct import random_table, written
from whichstand.apart import alike, told_apart
from whichstand.errors import BadStand
from whichstand.machines import Machine

# Three stands that write alike until stand 2 is reached.
CHAIN = Machine((((1, 0), (0, 0)), ((2, 0), (0, 0)), ((2, 1), (0, 0))))
SAME = Machine((((0, 0), (1, 1)), ((1, 0), (0, 1))))


def first_row_apart(table, one, other):
    """Try all rows, shorter ones first, then lesser ones; no pair of stands has to come twice."""
    letters = range(len(table[0]))
    for length in range(len(table) * (len(table) - 1) // 2 + 1):
        for row in itertools.product(letters, repeat=length):
            left = written(table, one, row)
            right = written(table, other, row)
            if left is not None and right is not None and left != right:
                return row
    return None


def first_row_backwards(table, one, other):
    """The same by the rows of exactly so many letters, each from the rows behind its first letter."""

    @functools.cache
    def least(left, right, length):
        for letter in range(len(table[0])):
            steps = (table[left][letter], table[right][letter])
            if None in steps:
                continue
            unlike = steps[0][1] != steps[1][1]
            if length == 1 and unlike:
                return (letter,)
            if length > 1 and not unlike:
                rest = least(steps[0][0], steps[1][0], length - 1)
                if rest is not None:
                    return (letter,) + rest
        return None

    for length in range(1, 16):
        row = least(one, other, length)
        if row is not None:
            return row
    return None


class ToldApartTest(unittest.TestCase):
    def check(self, table, expect=first_row_backwards):
        machine = Machine(table)
        stands = range(len(table))
        pairs_alike = []
        for one, other in itertools.product(stands, repeat=2):
            expected = expect(table, one, other)
            self.assertEqual(told_apart(machine, one, other), expected, (table, one, other))
            if one < other and expected is None:
                pairs_alike.append((one, other))
        self.assertEqual(alike(machine), pairs_alike, table)

    def test_example(self):
        found = [told_apart(CHAIN, 0, 1), told_apart(CHAIN, 1, 2), told_apart(CHAIN, 0, 0), alike(CHAIN)]
        self.assertEqual(found, [(0, 0), (0,), None, []])
        self.assertEqual(alike(SAME), [(0, 1)])

    def test_two_equal_stands(self):
        for machine in (CHAIN, SAME, Machine(((None, None, None),))):
            for stand in range(len(machine)):
                self.assertIsNone(told_apart(machine, stand, stand))

    def test_the_order_of_the_two_means_nothing(self):
        self.assertEqual(told_apart(CHAIN, 1, 0), (0, 0))
        self.assertEqual(told_apart(CHAIN, 2, 0), (0,))
        self.assertIsNone(told_apart(SAME, 1, 0))

    def test_the_answer_is_a_tuple(self):
        self.assertIs(type(told_apart(CHAIN, 0, 1)), tuple)

    def test_the_least_of_several_shortest_rows(self):
        both = Machine((((0, 0), (0, 0), (0, 0)), ((0, 0), (0, 1), (0, 1))))
        self.assertEqual(told_apart(both, 0, 1), (1,))
        # All of (1, 1), (1, 2), (2, 0) and (2, 1) tell apart, (0, x) does not.
        wide = Machine((
            ((0, 0), (2, 0), (3, 0)),
            ((0, 0), (4, 0), (5, 0)),
            ((2, 0), (2, 1), (2, 1)),
            ((3, 2), (3, 2), (3, 2)),
            ((4, 0), (4, 2), (4, 2)),
            ((5, 0), (5, 0), (5, 2)),
        ))
        self.assertEqual(told_apart(wide, 0, 1), (1, 1))
        self.check(wide.table)

    def test_a_shorter_row_is_least_ahead_of_a_lesser_one(self):
        machine = Machine((
            ((2, 0), (0, 0), (0, 0)),
            ((3, 0), (0, 0), (0, 1)),
            ((2, 0), (2, 0), (2, 0)),
            ((3, 1), (3, 1), (3, 1)),
        ))
        self.assertEqual(told_apart(machine, 0, 1), (2,))

    def test_a_row_that_one_cannot_read_tells_nothing(self):
        # The letter 0 would do but for the step that stand 1 lacks.
        machine = Machine((((0, 0), (2, 0)), (None, (3, 0)), ((2, 0), (2, 0)), ((3, 0), (3, 1))))
        self.assertEqual(told_apart(machine, 0, 1), (1, 1))
        self.assertEqual(told_apart(machine, 1, 0), (1, 1))
        # As before, but the step lacks behind the letter that leads on.
        behind = Machine((((2, 0), (0, 0)), ((3, 0), (1, 0)), ((0, 0), (2, 1)), (None, (3, 3))))
        self.assertEqual(told_apart(behind, 2, 3), (1,))
        self.assertEqual(told_apart(behind, 0, 1), (0, 1))

    def test_alike_though_only_one_lacks_a_step(self):
        machine = Machine((((0, 0), (0, 1)), ((1, 0), None)))
        self.assertIsNone(told_apart(machine, 0, 1))
        self.assertIsNone(told_apart(machine, 1, 0))
        self.assertEqual(alike(machine), [(0, 1)])
        lacking = Machine((((0, 0), (0, 1)), (None, None)))
        self.assertIsNone(told_apart(lacking, 0, 1))
        # Stand 1 is alike to both of the others, which are told apart.
        middle = Machine((((0, 0), None), (None, (1, 0)), ((2, 1), (2, 0))))
        self.assertEqual(alike(middle), [(0, 1), (1, 2)])
        self.assertEqual(told_apart(middle, 0, 2), (0,))

    def test_stands_that_come_together_are_alike(self):
        machine = Machine((((2, 0), (2, 1)), ((2, 0), (2, 1)), ((0, 2), (1, 3))))
        self.assertEqual(alike(machine), [(0, 1)])

    def test_the_longest_row_that_six_stands_can_need(self):
        # Its fifteen letters lead through all pairs of six stands.
        machine = Machine((
            ((3, 0), (0, 0), (3, 0)),
            ((5, 0), None, (2, 0)),
            (None, None, (0, 0)),
            (None, (4, 1), (5, 0)),
            ((2, 0), None, (1, 0)),
            (None, None, (4, 0)),
        ))
        self.assertEqual(told_apart(machine, 1, 3), (2, 2, 0, 2, 2, 2, 2, 2, 0, 2, 2, 2, 2, 2, 1))
        self.check(machine.table)

    def test_bad_stand(self):
        bad = [-1, 3, 4, True, False, None, "0", "", [0], [], (0,), (), {}, {0: 0}, 10 ** 30]
        for value in bad:
            for one, other in ((value, 0), (0, value), (value, value), (value, -1)):
                with self.assertRaises(BadStand, msg=repr((one, other))):
                    told_apart(CHAIN, one, other)

    def test_all_machines_of_two_stands(self):
        steps = (None, (0, 0), (1, 0), (0, 1), (1, 1))
        for four in itertools.product(steps, repeat=4):
            self.check((four[:2], four[2:]), first_row_apart)

    def test_machines_of_three_and_four_stands_against_all_rows(self):
        source = random.Random(4)
        for lacks, most_written, letters in itertools.product((0, 2, 5), (1, 2, 4), (2, 3)):
            for _ in range(10):
                self.check(random_table(source, 3, letters, lacks, most_written), first_row_apart)
            self.check(random_table(source, 4, letters, lacks, most_written), first_row_apart)

    def test_machines_of_up_to_six_stands_against_rows_from_behind(self):
        source = random.Random(5)
        for lacks, most_written, letters in itertools.product((0, 2, 5), (1, 2, 4), (2, 3)):
            for stands in range(1, 7):
                for _ in range(6):
                    self.check(random_table(source, stands, letters, lacks, most_written))


class AlikeTest(unittest.TestCase):
    def test_one_stand(self):
        self.assertEqual(alike(Machine((((0, 0), (0, 1)),))), [])

    def test_all_pairs_ascending(self):
        for stands in range(1, 7):
            machine = Machine((((0, 0), (0, 0)),) * stands)
            expected = list(itertools.combinations(range(stands), 2))
            self.assertEqual(alike(machine), expected)

    def test_kinds_of_the_answer(self):
        pairs = alike(SAME)
        self.assertIs(type(pairs), list)
        self.assertIs(type(pairs[0]), tuple)

    def test_a_new_list_at_each_call(self):
        first = alike(SAME)
        second = alike(SAME)
        self.assertIsNot(first, second)
        first.append((5, 6))
        self.assertEqual(second, [(0, 1)])
        self.assertEqual(alike(SAME), [(0, 1)])
        self.assertIsNot(alike(CHAIN), alike(CHAIN))

    def test_the_machine_stays_as_it_was(self):
        table = CHAIN.table
        alike(CHAIN)
        told_apart(CHAIN, 0, 1)
        with self.assertRaises(BadStand):
            told_apart(CHAIN, 0, 3)
        self.assertEqual(CHAIN.table, table)
        self.assertEqual(told_apart(CHAIN, 0, 1), told_apart(CHAIN, 0, 1))


if __name__ == "__main__":
    unittest.main()
