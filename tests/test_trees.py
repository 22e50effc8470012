import copy
import functools
import itertools
import random
import unittest

from direct import (
    BAD_AIMS, BAD_STANDS, LONG_WAY_HOME, Refusing, all_tables, random_table, subsets, tree_depth,
)
from treevalues import all_trees, part_at, places, put_at, reading_on
from whichstand.errors import BadAim, BadStands
from whichstand.machines import Machine
from whichstand.rows import least_row
from whichstand.trees import depth_of, least_depth, tree

TREE_AIMS = ("first", "last")

# Three stands that write alike until stand 2 is reached.
CHAIN = Machine((((1, 0), (0, 0)), ((2, 0), (0, 0)), ((2, 1), (0, 0))))
SAME = Machine((((0, 0), (1, 1)), ((1, 0), (0, 1))))
TOLD = (0, ((0, (0, ((0, ()), (1, ())))), (1, ())))
# What is written at the letter 0 tells which letter is to be read next.
CHOICE = Machine((
    ((0, 0), (0, 0), (0, 0)),
    ((1, 0), (1, 1), (0, 0)),
    ((2, 1), (2, 0), (2, 0)),
    ((3, 1), (2, 0), (3, 1)),
))
CHOSEN = (0, ((0, (1, ((0, ()), (1, ())))), (1, (2, ((0, ()), (1, ()))))))
# Stand 0 writes 0 and stand 1 writes 3, and each stays where it is; stand 1 reads the letter 0 only.
STAY = Machine((((0, 0), (0, 0)), ((1, 3), None)))


def least_depth_downwards(table, stands, aim):
    """The least depth, asked for each number of letters from above."""

    @functools.cache
    def told(block, depth):
        if len(block) == 1:
            return True
        return depth > 0 and any(led(block, letter, depth - 1) for letter in range(len(table[0])))

    def led(block, letter, depth):
        steps = [table[stand][letter] for stand in block]
        if None in steps or (aim == "first" and len(set(steps)) < len(steps)):
            return False
        parts = [tuple(sorted({at for at, also in steps if also == wrote})) for wrote in {w for _, w in steps}]
        return all(told(part, depth) for part in parts)

    # There are 57 blocks of two to six stands, and none has to come twice.
    return next((depth for depth in range(58) if told(stands, depth)), None)


class DepthOfTest(unittest.TestCase):
    def check(self, machine, stands, aim, value, depth):
        self.assertEqual(depth_of(machine, stands, aim, value), depth, (machine.table, stands, aim, value))

    def refuse(self, machine, stands, value, aims=TREE_AIMS):
        for aim in aims:
            before = copy.deepcopy(value)
            self.assertIsNone(depth_of(machine, stands, aim, value), (stands, aim, value))
            self.assertEqual(value, before)

    def test_example(self):
        self.check(CHAIN, (0, 1, 2), "first", TOLD, 2)
        self.check(CHAIN, (0, 1, 2), "first", (), None)

    def test_nothing_is_read_where_the_stand_is_known(self):
        for machine, aim in itertools.product((CHAIN, SAME, CHOICE), TREE_AIMS):
            for stand in range(len(machine)):
                self.check(machine, (stand,), aim, (), 0)

    def test_the_depth_is_that_of_the_deepest_branch(self):
        self.check(CHOICE, (0, 1, 2, 3), "last", CHOSEN, 2)
        self.check(CHOICE, (0, 1, 2, 3), "first", CHOSEN, 2)
        deeper = put_at(CHOSEN, (1, 0, 1, 1, 1, 1), (1, ((1, (0, ((0, ()),))),)))
        self.check(CHOICE, (0, 1, 2, 3), "first", deeper, 4)
        self.check(CHAIN, (0, 2), "first", (0, ((0, ()), (1, ()))), 1)
        self.check(CHAIN, (0, 2), "first", (0, ((0, ()), (1, (0, ((1, ()),))))), 2)
        self.check(CHAIN, (0, 2), "first", (0, ((0, (1, ((0, ()),))), (1, ()))), 2)

    def test_a_tree_that_ends_too_early(self):
        self.refuse(CHAIN, (0, 1), ())
        self.refuse(CHAIN, (0, 1, 2), (0, ((0, ()), (1, ()))))
        self.refuse(CHAIN, (0, 1), (0, ((0, ()),)))
        self.refuse(CHOICE, (0, 1, 2, 3), put_at(CHOSEN, (1, 0, 1), ()))
        self.refuse(CHOICE, (0, 1, 2, 3), put_at(CHOSEN, (1, 1, 1), ()))

    def test_a_tree_that_reads_on_where_the_stand_is_known(self):
        for aim in TREE_AIMS:
            self.check(CHAIN, (0,), aim, (1, ((0, ()),)), 1)
            self.check(CHAIN, (2,), aim, reading_on(7, 0, 1), 7)
            self.check(CHAIN, (0, 1, 2), aim, put_at(TOLD, (1, 1, 1), reading_on(5, 0, 1)), 6)
            self.check(CHAIN, (0, 1, 2), aim, put_at(TOLD, (1, 0, 1, 1, 1, 1), (1, ((0, ()),))), 3)
            self.check(STAY, (0, 1), aim, (0, ((0, (1, ((0, ()),))), (3, ()))), 2)

    def test_reading_on_keeps_to_the_rules(self):
        self.refuse(CHAIN, (0,), (1, ((1, ()),)))
        self.refuse(CHAIN, (0,), (1, ((0, ()), (1, ()))))
        self.refuse(CHAIN, (0,), (1, ()))
        self.refuse(CHAIN, (0,), (2, ((0, ()),)))
        self.refuse(CHAIN, (2,), (0, ((1, (0, ((0, ()),))),)))
        # The step lacks for the one stand that is possible.
        self.refuse(STAY, (1,), (1, ((0, ()),)))
        self.refuse(STAY, (0, 1), (0, ((0, ()), (3, (1, ((0, ()),))))))

    def test_as_deep_as_one_likes(self):
        for depth in (40, 41, 300, 20000):
            value = reading_on(depth, 0, 1)
            # Not by check, which would write the tree out.
            self.assertEqual(depth_of(CHAIN, (2,), "first", value), depth)
            self.assertEqual(depth_of(CHAIN, (0, 2), "last", (0, ((0, ()), (1, value)))), depth + 1)
            self.assertIsNone(depth_of(CHAIN, (2,), "last", (0, ((0, value),))))
            self.assertIsNone(depth_of(CHAIN, (0, 1), "last", value))

    def test_a_letter_that_some_possible_stand_cannot_read(self):
        self.refuse(STAY, (0, 1), (1, ((0, ()),)))
        self.refuse(STAY, (0, 1), (1, ((0, ()), (3, ()))))
        self.check(STAY, (0,), "first", (1, ((0, ()),)), 1)
        # The letter 1 lacks for stand 2 only, which is told from the others at first.
        machine = Machine((((0, 0), (0, 0)), ((1, 0), (1, 1)), ((2, 1), None)))
        for aim in TREE_AIMS:
            self.check(machine, (0, 1), aim, (1, ((0, ()), (1, ()))), 1)
            self.check(machine, (0, 1, 2), aim, (1, ((0, ()), (1, ()))), None)
            self.check(machine, (0, 1, 2), aim, (0, ((0, (1, ((0, ()), (1, ())))), (1, ()))), 2)

    def test_two_stands_that_write_alike_and_come_together(self):
        together = (1, ((0, ()),))
        self.check(CHAIN, (0, 1, 2), "last", together, 1)
        self.check(CHAIN, (0, 1, 2), "first", together, None)
        self.check(CHAIN, (0, 1), "last", together, 1)
        self.check(CHAIN, (0, 1), "first", together, None)
        # The same behind a letter, in one of two branches.
        for aim, depth in (("last", 2), ("first", None)):
            self.check(CHAIN, (0, 1, 2), aim, (0, ((0, together), (1, ()))), depth)
        # Stands 0 and 1 come together, though stand 2, with both of them, is told from them by it.
        machine = Machine((((0, 0), (0, 0)), ((0, 0), (1, 1)), ((2, 1), (2, 2))))
        for aim, depth in (("last", 1), ("first", None)):
            self.check(machine, (0, 1, 2), aim, (0, ((0, ()), (1, ()))), depth)
        # They may come together where they write unlike.
        unlike = Machine((((0, 0), (0, 0)), ((0, 1), (0, 0))))
        self.check(unlike, (0, 1), "first", (0, ((0, ()), (1, ()))), 1)

    def test_branches_too_few_too_many_and_in_another_order(self):
        self.refuse(CHAIN, (0, 2), (0, ()))
        self.refuse(CHAIN, (0, 2), (0, ((0, ()),)))
        self.refuse(CHAIN, (0, 2), (0, ((1, ()),)))
        self.refuse(CHAIN, (0, 2), (0, ((1, ()), (0, ()))))
        self.refuse(CHAIN, (0, 2), (0, ((0, ()), (1, ()), (2, ()))))
        self.refuse(CHAIN, (0, 2), (0, ((0, ()), (0, ()), (1, ()))))
        self.refuse(CHAIN, (0, 2), (0, ((0, ()), (1, ()), (1, ()))))
        self.refuse(CHAIN, (0, 2), (0, ((0, ()), (0, ()))))
        self.refuse(CHAIN, (0, 1, 2), (0, ((1, ()), TOLD[1][0])))
        for some in itertools.permutations(((0, ()), (1, ()), (2, ()), (3, ()))):
            machine = Machine((((0, 0), (0, 0)), ((0, 1), (0, 0)), ((0, 2), (0, 0)), ((0, 3), (0, 0))))
            depth = 1 if list(some) == sorted(some) else None
            for aim in TREE_AIMS:
                self.check(machine, (0, 1, 2, 3), aim, (0, some), depth)

    def test_branches_for_letters_that_cannot_be_written(self):
        self.refuse(CHAIN, (0, 2), (0, ((0, ()), (2, ()))))
        self.refuse(CHAIN, (0, 2), (0, ((1, ()), (2, ()))))
        self.refuse(CHAIN, (1, 2), (1, ((0, ()), (1, ()))))
        self.refuse(CHAIN, (0, 2), (0, ((-1, ()), (0, ()), (1, ()))))
        # Stand 2 writes 1 at the letter 0, but it is not possible here.
        self.refuse(CHAIN, (0, 1), (0, ((0, (0, ((0, ()), (1, ())))), (1, ()))))
        self.assertEqual(depth_of(CHAIN, (0, 1), "first", (0, ((0, (0, ((0, ()), (1, ())))),))), 2)

    def test_values_that_are_no_tree_in_each_place(self):
        wrong = [
            None, True, False, "", "0", "()", [], [0], {}, {0: ()}, -1, 4, 10 ** 30, (None,), (0,), ((),),
            (0, (), ()), (0, ((0, ()),), ()), (0, None), (0, 1), (0, []), ("0", ((0, ()),)), (0, (0, ())),
            (0, ((0,),)), (0, ((0, (), ()),)), (0, (((), 0),)), (0, ((0, None),)), (0, ((None, ()),)), (0, "0"),
        ]
        for machine, stands, value in ((CHAIN, (0, 1, 2), TOLD), (CHOICE, (0, 1, 2, 3), CHOSEN)):
            for way, part in itertools.product(places(value), wrong):
                self.refuse(machine, stands, put_at(value, way, part))
            self.assertEqual(depth_of(machine, stands, "first", value), 2)
        for part in wrong:
            self.refuse(CHAIN, (0,), part)

    def test_lists_are_no_trees_in_each_place(self):
        for machine, stands, value in ((CHAIN, (0, 1, 2), TOLD), (CHOICE, (0, 1, 2, 3), CHOSEN)):
            for way in places(value):
                part = part_at(value, way)
                if isinstance(part, tuple):
                    self.refuse(machine, stands, put_at(value, way, list(part)))
                else:
                    self.refuse(machine, stands, put_at(value, way, (part,)))
                    self.refuse(machine, stands, put_at(value, way, str(part)))
        self.refuse(CHAIN, (0,), [])

    def test_true_and_false_are_no_letters(self):
        for value in (TOLD, put_at(TOLD, (1, 0, 1, 0), 1)):
            for way in places(value):
                part = part_at(value, way)
                if part in (0, 1):
                    self.refuse(CHAIN, (0, 1, 2), put_at(value, way, bool(part)))
        self.refuse(CHAIN, (0, 1), (True, ((0, ()),)))
        self.check(CHAIN, (0, 1), "last", (1, ((0, ()),)), 1)

    def test_letters_that_only_other_machines_read(self):
        self.refuse(CHAIN, (0,), (2, ((0, ()),)))
        self.check(CHOICE, (0,), "first", (2, ((0, ()),)), 1)
        self.refuse(CHOICE, (0,), (3, ((0, ()),)))

    def test_all_small_trees_for_all_machines_of_two_stands(self):
        values = all_trees(1)
        for table in all_tables(2, (None, (0, 0), (1, 0), (0, 1), (1, 1))):
            machine = Machine(table)
            for stands, aim, value in itertools.product(subsets(2), TREE_AIMS, values):
                self.check(machine, stands, aim, value, tree_depth(table, stands, aim, value))

    def test_all_trees_of_two_letters_for_machines_of_three_stands(self):
        source = random.Random(31)
        values = all_trees(2)
        for lacks in (0, 0, 1, 2):
            for _ in range(10):
                machine = Machine(random_table(source, 3, 2, lacks, 2))
                for stands, aim, value in itertools.product(subsets(3), TREE_AIMS, values):
                    self.check(machine, stands, aim, value, tree_depth(machine.table, stands, aim, value))

    def test_the_answer_is_an_integer(self):
        for value in (TOLD, put_at(TOLD, (1, 1, 1), reading_on(3, 0, 1))):
            self.assertIs(type(depth_of(CHAIN, (0, 1, 2), "first", value)), int)
        self.assertIs(type(depth_of(CHAIN, (0,), "first", ())), int)


class LeastDepthTest(unittest.TestCase):
    def check(self, table):
        """Compare with a second computation; tree and depth_of must agree with it, too."""
        machine = Machine(table)
        for stands, aim in itertools.product(subsets(len(table)), TREE_AIMS):
            wanted = least_depth_downwards(table, stands, aim)
            self.assertEqual(least_depth(machine, stands, aim), wanted, (table, stands, aim))
            found = tree(machine, stands, aim)
            self.assertEqual(found is None, wanted is None, (table, stands, aim))
            self.assertEqual(depth_of(machine, stands, aim, found), wanted, (table, stands, aim, found))
            self.assertEqual(tree_depth(table, stands, aim, found), wanted, (table, stands, aim, found))

    def test_example(self):
        found = [least_depth(CHAIN, (0, 1, 2), "first"), least_depth(CHAIN, (0, 1, 2), "last")]
        self.assertEqual(found, [2, 1])
        self.assertEqual(tree(CHAIN, (2,), "first"), ())
        self.assertEqual(tree(CHAIN, (0, 1), "first"), (0, ((0, (0, ((0, ()), (1, ())))),)))

    def test_depth_0_for_one_stand(self):
        nothing = Machine(((None, None), (None, None)))
        for machine, aim in itertools.product((CHAIN, SAME, CHOICE, nothing), TREE_AIMS):
            for stand in range(len(machine)):
                self.assertEqual(least_depth(machine, (stand,), aim), 0)
                self.assertEqual(tree(machine, (stand,), aim), ())
                self.assertEqual(depth_of(machine, (stand,), aim, ()), 0)

    def test_none_for_all_of_them_together(self):
        nothing = Machine(((None, None), ((1, 1), None)))
        for machine, aim in itertools.product((SAME, nothing), TREE_AIMS):
            self.assertIsNone(least_depth(machine, (0, 1), aim))
            self.assertIsNone(tree(machine, (0, 1), aim))
            for value in all_trees(2) + [None]:
                self.assertIsNone(depth_of(machine, (0, 1), aim, value))

    def test_stands_that_meet_for_each_aim(self):
        machine = Machine((((0, 0), (0, 0)), ((0, 0), (0, 0))))
        self.assertEqual([least_depth(machine, (0, 1), aim) for aim in TREE_AIMS], [None, 1])
        self.assertEqual([tree(machine, (0, 1), aim) for aim in TREE_AIMS], [None, (0, ((0, ()),))])

    def test_a_tree_may_do_with_fewer_letters_than_a_row(self):
        for aim in TREE_AIMS:
            self.assertEqual(least_depth(CHOICE, (0, 1, 2, 3), aim), 2)
            self.assertEqual(tree_depth(CHOICE.table, (0, 1, 2, 3), aim, tree(CHOICE, (0, 1, 2, 3), aim)), 2)
        self.assertIsNone(least_row(CHOICE, (0, 1, 2, 3), "first"))

    def test_machines_of_two_stands_against_all_trees(self):
        # The block of both stands does not have to come twice, so one letter is enough if any tree does.
        values = all_trees(1)
        for table in all_tables(2, (None, (0, 0), (1, 0), (0, 1), (1, 1))):
            machine = Machine(table)
            for stands, aim in itertools.product(subsets(2), TREE_AIMS):
                depths = [tree_depth(table, stands, aim, value) for value in values]
                wanted = min([depth for depth in depths if depth is not None], default=None)
                self.assertEqual(least_depth(machine, stands, aim), wanted, (table, stands, aim))
            self.check(table)

    def test_machines_of_three_stands_against_all_trees(self):
        source = random.Random(32)
        values = all_trees(3)
        self.assertEqual(len(values), 32767)
        met = set()
        for lacks, stands in itertools.product((0, 0, 0, 1, 2), ((0, 1), (0, 2), (0, 1, 2))):
            table = random_table(source, 3, 2, lacks, 2)
            for aim in TREE_AIMS:
                depths = [tree_depth(table, stands, aim, value) for value in values]
                wanted = min([depth for depth in depths if depth is not None], default=None)
                found = least_depth(Machine(table), stands, aim)
                met.add(found)
                # There are four blocks of two and three stands: some tree may need a fourth letter.
                self.assertEqual(None if found == 4 else found, wanted, (table, stands, aim))
        self.assertLessEqual({None, 1, 2}, met)

    def test_machines_of_up_to_six_stands(self):
        source = random.Random(33)
        for lacks, most_written, letters in itertools.product((0, 1, 3), (1, 2, 4), (2, 3)):
            for stands in range(1, 7):
                for _ in range(6 if stands < 6 else 2):
                    self.check(random_table(source, stands, letters, lacks, most_written))

    def test_trees_far_deeper_than_there_are_stands(self):
        # Nothing but the letter 0 is written, so the tree is a row that leads home.
        machine = Machine(LONG_WAY_HOME)
        self.assertEqual(least_depth(machine, tuple(range(6)), "last"), 30)
        self.assertIsNone(least_depth(machine, tuple(range(6)), "first"))
        self.check(LONG_WAY_HOME)

    def test_a_row_that_reaches_the_aim_gives_a_tree(self):
        source = random.Random(34)
        for _ in range(100):
            machine = Machine(random_table(source, 4, 2, 1, 2))
            for stands, aim in itertools.product(subsets(4), TREE_AIMS):
                row = least_row(machine, stands, aim)
                if row is not None:
                    self.assertLessEqual(least_depth(machine, stands, aim), len(row))

    def test_kinds_of_the_answers(self):
        self.assertIs(type(least_depth(CHAIN, (0, 1, 2), "first")), int)
        waiting = [tree(CHOICE, (0, 1, 2, 3), "first")]
        for value in waiting:
            self.assertIs(type(value), tuple)
            if value:
                self.assertIs(type(value[1]), tuple)
                waiting.extend(below for _, below in value[1])

    def test_repeated_calls(self):
        for stands, aim in itertools.product(subsets(3), TREE_AIMS):
            self.assertEqual(tree(CHAIN, stands, aim), tree(CHAIN, stands, aim))
            self.assertEqual(least_depth(CHAIN, stands, aim), least_depth(CHAIN, stands, aim))


class RefusalsTest(Refusing, unittest.TestCase):
    CALLS = (tree, least_depth, lambda machine, stands, aim: depth_of(machine, stands, aim, TOLD))

    def test_bad_stands(self):
        for call, stands, aim in itertools.product(self.CALLS, BAD_STANDS, TREE_AIMS):
            self.refuse(BadStands, call, CHAIN, stands, aim)

    def test_home_and_other_bad_aims(self):
        for call, stands in itertools.product(self.CALLS, [(0,), (0, 2), (0, 1, 2)]):
            self.refuse(BadAim, call, CHAIN, stands, "home")
            for aim in BAD_AIMS:
                self.refuse(BadAim, call, CHAIN, stands, aim)

    def test_stands_go_ahead_of_aims(self):
        for call, stands, aim in itertools.product(self.CALLS, BAD_STANDS, BAD_AIMS + ["home"]):
            self.refuse(BadStands, call, CHAIN, stands, aim)

    def test_stands_and_aims_are_looked_at_for_any_value(self):
        for value in (None, 0, (), [], {}, "first", (0,), TOLD):
            self.refuse(BadStands, depth_of, CHAIN, (1, 0), "first", value)
            self.refuse(BadStands, depth_of, CHAIN, (True,), "home", value)
            self.refuse(BadAim, depth_of, CHAIN, (0, 1), "home", value)
            self.refuse(BadAim, depth_of, CHAIN, (0,), None, value)

    def test_calls_after_errors(self):
        before = tree(CHAIN, (0, 1, 2), "first")
        for call in self.CALLS:
            self.refuse(BadStands, call, CHAIN, (3,), "first")
            self.refuse(BadAim, call, CHAIN, (0,), "home")
        self.assertEqual(tree(CHAIN, (0, 1, 2), "first"), before)
        self.assertEqual(depth_of(CHAIN, (0, 1, 2), "first", before), 2)


if __name__ == "__main__":
    unittest.main()
