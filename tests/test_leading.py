import copy
import functools
import itertools
import random
import unittest

from direct import (
    BAD_STAND, BAD_STANDS, LONG_WAY_HOME, Refusing, all_tables, lead_tree_depth, random_table, subsets,
)
from treevalues import all_trees, part_at, places, put_at, reading_on
from whichstand.errors import BadStand, BadStands
from whichstand.leading import lead, lead_depth, least_lead
from whichstand.machines import Machine
from whichstand.trees import least_depth

# Three stands that write alike until stand 2 is reached.
CHAIN = Machine((((1, 0), (0, 0)), ((2, 0), (0, 0)), ((2, 1), (0, 0))))
SAME = Machine((((0, 0), (1, 1)), ((1, 0), (0, 1))))
# What is written at the letter 0 tells whether the letter 1 or nothing is to be read next.
CHOICE = Machine((
    ((0, 0), (1, 0)),
    ((1, 1), (0, 0)),
    ((1, 2), (2, 0)),
))
CHOSEN = (0, ((0, ()), (1, (1, ((0, ()),))), (2, (1, ((0, ()),)))))
ONE_WAY = Machine((((1, 0), None), ((1, 0), (1, 1))))


def least_lead_downwards(table, stands, goal):
    """The least depth, asked for each number of letters from above."""

    @functools.cache
    def led(block, depth):
        if block == (goal,):
            return True
        return depth > 0 and any(led_by(block, letter, depth - 1) for letter in range(len(table[0])))

    def led_by(block, letter, depth):
        steps = [table[stand][letter] for stand in block]
        if None in steps:
            return False
        parts = [tuple(sorted({at for at, also in steps if also == wrote})) for wrote in {w for _, w in steps}]
        return all(led(part, depth) for part in parts)

    # There are 63 blocks of one to six stands, and none has to come twice.
    return next((depth for depth in range(64) if led(stands, depth)), None)


class LeadDepthTest(unittest.TestCase):
    def check(self, machine, stands, goal, value, depth):
        self.assertEqual(lead_depth(machine, stands, goal, value), depth, (machine.table, stands, goal, value))
        wanted = lead_tree_depth(machine.table, stands, goal, value)
        self.assertEqual(wanted, depth, (machine.table, stands, goal, value))

    def refuse(self, machine, stands, goal, value):
        before = copy.deepcopy(value)
        self.assertIsNone(lead_depth(machine, stands, goal, value), (stands, goal, value))
        self.assertEqual(value, before)

    def test_example(self):
        self.refuse(CHAIN, (0, 1), 1, ())

    def test_the_goal_alone_at_once(self):
        for machine in (CHAIN, SAME, CHOICE, Machine(((None, None), (None, None)))):
            for stand in range(len(machine)):
                self.check(machine, (stand,), stand, (), 0)

    def test_trees_that_lead_to_the_goal(self):
        self.check(CHAIN, (0, 1, 2), 0, (1, ((0, ()),)), 1)
        self.check(CHAIN, (0, 1, 2), 2, (0, ((0, (0, ((0, ()), (1, ())))), (1, ()))), 2)
        self.check(CHOICE, (0, 1, 2), 0, CHOSEN, 2)
        self.check(CHOICE, (1, 2), 0, (0, CHOSEN[1][1:]), 2)
        self.check(CHOICE, (1, 2), 1, (0, ((1, ()), (2, ()))), 1)
        self.check(SAME, (1,), 0, (1, ((1, ()),)), 1)

    def test_trees_that_end_where_more_than_the_goal_is_possible(self):
        for goal in range(3):
            self.refuse(CHAIN, (0, 1), goal, ())
            self.refuse(CHAIN, (0, 1, 2), goal, (0, ((0, ()), (1, ()))))
        self.refuse(CHAIN, (1, 2), 2, ())
        self.refuse(CHAIN, (1, 2), 1, ())

    def test_trees_that_end_elsewhere(self):
        for stand, goal in itertools.permutations(range(3), 2):
            self.refuse(CHAIN, (stand,), goal, ())
        self.refuse(CHAIN, (0, 1, 2), 1, (1, ((0, ()),)))
        self.refuse(CHAIN, (0, 1, 2), 2, (1, ((0, ()),)))
        for goal in (1, 2):
            self.refuse(CHOICE, (0, 1, 2), goal, CHOSEN)
        # One branch ends elsewhere.
        self.refuse(CHOICE, (0, 1, 2), 0, put_at(CHOSEN, (1, 1, 1), ()))
        self.refuse(CHOICE, (0, 1, 2), 0, put_at(CHOSEN, (1, 0, 1), (1, ((0, ()),))))
        self.check(CHOICE, (0, 1, 2), 0, put_at(CHOSEN, (1, 0, 1), (0, ((0, ()),))), 2)

    def test_trees_that_read_on_where_the_goal_alone_is_possible(self):
        self.check(CHAIN, (2,), 2, (0, ((1, ()),)), 1)
        self.check(CHAIN, (0,), 0, (1, ((0, (1, ((0, ()),))),)), 2)
        self.check(CHAIN, (0, 1, 2), 0, (1, ((0, reading_on(5, 1, 0)),)), 6)
        # Away from the goal and back again.
        self.check(CHAIN, (0,), 0, (0, ((0, (1, ((0, ()),))),)), 2)
        self.refuse(CHAIN, (0,), 0, (0, ((0, ()),)))
        self.refuse(CHAIN, (0, 1, 2), 0, (1, ((0, (0, ((0, ()),))),)))

    def test_trees_that_read_on_where_another_stand_is_known(self):
        self.check(CHAIN, (2,), 1, (1, ((0, (0, ((0, ()),))),)), 2)
        self.check(CHAIN, (0, 1, 2), 1, (1, ((0, (0, ((0, ()),))),)), 2)

    def test_as_deep_as_one_likes(self):
        for depth in (40, 41, 300, 20000):
            value = reading_on(depth, 0, 1)
            # Not by check, which would write the tree out.
            self.assertEqual(lead_depth(CHAIN, (2,), 2, value), depth)
            self.assertIsNone(lead_depth(CHAIN, (2,), 1, value))

    def test_two_that_write_alike_may_come_together(self):
        machine = Machine((((0, 0), (0, 0)), ((0, 0), (1, 1))))
        self.check(machine, (0, 1), 0, (0, ((0, ()),)), 1)
        self.assertIsNone(least_depth(Machine((((0, 0), (0, 0)), ((0, 0), (0, 0)))), (0, 1), "first"))

    def test_a_letter_that_some_possible_stand_cannot_read(self):
        self.check(ONE_WAY, (0, 1), 1, (0, ((0, ()),)), 1)
        self.refuse(ONE_WAY, (0, 1), 1, (1, ((1, ()),)))
        self.refuse(ONE_WAY, (0,), 1, (1, ((1, ()),)))
        self.check(ONE_WAY, (1,), 1, (1, ((1, ()),)), 1)
        self.check(ONE_WAY, (0, 1), 1, (0, ((0, (1, ((1, ()),))),)), 2)

    def test_branches_too_few_too_many_and_in_another_order(self):
        branches = CHOSEN[1]
        for many in range(5):
            for some in itertools.product(branches + ((3, ()),), repeat=many):
                if some != branches:
                    self.refuse(CHOICE, (0, 1, 2), 0, (0, some))
        for some in itertools.permutations(branches):
            self.check(CHOICE, (0, 1, 2), 0, (0, some), 2 if some == branches else None)

    def test_branches_for_letters_that_cannot_be_written(self):
        # Stand 0 writes 0 at the letter 0, but it is not possible.
        self.refuse(CHOICE, (1, 2), 0, CHOSEN)
        self.refuse(CHAIN, (0, 1, 2), 0, (1, ((1, ()),)))
        self.refuse(CHAIN, (0, 1, 2), 0, (1, ((0, ()), (1, ()))))
        self.refuse(CHAIN, (0, 1, 2), 0, (1, ((-1, ()), (0, ()))))

    def test_values_that_are_no_tree_in_each_place(self):
        wrong = [
            None, True, False, "", "0", "()", [], [0], {}, {0: ()}, -1, 4, 10 ** 30, (None,), (0,), ((),),
            (0, (), ()), (0, ((0, ()),), ()), (0, None), (0, 1), (0, []), ("0", ((0, ()),)), (0, (0, ())),
            (0, ((0,),)), (0, ((0, (), ()),)), (0, (((), 0),)), (0, ((0, None),)), (0, ((None, ()),)), (0, "0"),
        ]
        told = (0, ((0, (0, ((0, ()), (1, ())))), (1, ())))
        for machine, goal, value in ((CHAIN, 2, told), (CHOICE, 0, CHOSEN)):
            for way, part in itertools.product(places(value), wrong):
                self.refuse(machine, (0, 1, 2), goal, put_at(value, way, part))
            for way in places(value):
                part = part_at(value, way)
                if isinstance(part, tuple):
                    self.refuse(machine, (0, 1, 2), goal, put_at(value, way, list(part)))
                else:
                    self.refuse(machine, (0, 1, 2), goal, put_at(value, way, (part,)))
                    self.refuse(machine, (0, 1, 2), goal, put_at(value, way, str(part)))
                    if part in (0, 1):
                        self.refuse(machine, (0, 1, 2), goal, put_at(value, way, bool(part)))
            self.check(machine, (0, 1, 2), goal, value, 2)
        for part in wrong:
            self.refuse(CHAIN, (0,), 0, part)

    def test_letters_that_only_other_machines_read(self):
        wide = Machine((((0, 0), (0, 0), (0, 0)),))
        self.check(wide, (0,), 0, (2, ((0, ()),)), 1)
        self.refuse(CHAIN, (0,), 0, (2, ((0, ()),)))
        self.refuse(wide, (0,), 0, (3, ((0, ()),)))

    def test_all_small_trees_for_all_machines_of_two_stands(self):
        values = all_trees(1)
        for table in all_tables(2, (None, (0, 0), (1, 0), (0, 1), (1, 1))):
            machine = Machine(table)
            for stands, goal, value in itertools.product(subsets(2), range(2), values):
                self.check(machine, stands, goal, value, lead_tree_depth(table, stands, goal, value))

    def test_all_trees_of_two_letters_for_machines_of_three_stands(self):
        source = random.Random(81)
        values = all_trees(2)
        for lacks in (0, 0, 1, 2):
            for _ in range(8):
                machine = Machine(random_table(source, 3, 2, lacks, 2))
                for stands, goal, value in itertools.product(subsets(3), range(3), values):
                    wanted = lead_tree_depth(machine.table, stands, goal, value)
                    self.assertEqual(lead_depth(machine, stands, goal, value), wanted, (machine.table, stands, value))

    def test_the_answer_is_an_integer(self):
        self.assertIs(type(lead_depth(CHAIN, (0,), 0, ())), int)
        self.assertIs(type(lead_depth(CHOICE, (0, 1, 2), 0, CHOSEN)), int)


class LeastLeadTest(unittest.TestCase):
    def check(self, table, source=None):
        """Compare with a second computation; lead and lead_depth must agree with it, too."""
        machine = Machine(table)
        asked = list(itertools.product(subsets(len(table)), range(len(table))))
        if source is not None and len(asked) > 50:
            asked = source.sample(asked, 50)
        for stands, goal in asked:
            wanted = least_lead_downwards(table, stands, goal)
            self.assertEqual(least_lead(machine, stands, goal), wanted, (table, stands, goal))
            found = lead(machine, stands, goal)
            self.assertEqual(found is None, wanted is None, (table, stands, goal))
            self.assertEqual(lead_depth(machine, stands, goal, found), wanted, (table, stands, goal, found))
            self.assertEqual(lead_tree_depth(table, stands, goal, found), wanted, (table, stands, goal, found))

    def test_example(self):
        found = [least_lead(CHAIN, (0, 1, 2), 0), least_lead(CHAIN, (0, 1, 2), 2)]
        self.assertEqual(found, [1, 2])
        self.assertEqual([lead(CHAIN, (0, 1, 2), 0), lead(CHAIN, (1,), 1)], [(1, ((0, ()),)), ()])

    def test_the_goal_alone_at_once(self):
        for machine in (CHAIN, SAME, CHOICE, Machine(((None, None), (None, None)))):
            for stand in range(len(machine)):
                self.assertEqual(least_lead(machine, (stand,), stand), 0)
                self.assertEqual(lead(machine, (stand,), stand), ())

    def test_a_goal_that_no_tree_leads_to(self):
        # Nothing leads away from stand 1 of the one machine, or leads both of the other one to one stand.
        lacking = Machine(((None, (1, 0)), (None, None)))
        for machine, stands, goal in (
            (ONE_WAY, (0, 1), 0), (ONE_WAY, (1,), 0), (SAME, (0, 1), 0), (SAME, (0, 1), 1),
            (lacking, (0, 1), 0), (lacking, (0, 1), 1), (lacking, (1,), 0),
        ):
            self.assertIsNone(least_lead(machine, stands, goal))
            self.assertIsNone(lead(machine, stands, goal))
            for value in all_trees(2) + [None]:
                self.assertIsNone(lead_depth(machine, stands, goal, value))
        self.assertEqual(least_lead(ONE_WAY, (0, 1), 1), 1)
        self.assertEqual(lead(lacking, (0,), 1), (1, ((0, ()),)))

    def test_a_goal_that_is_not_among_the_stands(self):
        self.assertEqual(least_lead(CHAIN, (0, 1), 2), 2)
        self.assertEqual(least_lead(CHAIN, (1, 2), 0), 1)
        self.assertEqual(lead(CHAIN, (0,), 1), (0, ((0, ()),)))
        self.assertEqual(lead(CHOICE, (1, 2), 0), (0, CHOSEN[1][1:]))

    def test_machines_of_two_stands_against_all_trees(self):
        # The least tree comes to no block of stands twice on one way, so it has at most two letters behind
        # one another.
        values = all_trees(2)
        for table in list(all_tables(2, (None, (0, 0), (1, 0), (0, 1), (1, 1))))[::3]:
            machine = Machine(table)
            for stands, goal in itertools.product(subsets(2), range(2)):
                depths = [lead_tree_depth(table, stands, goal, value) for value in values]
                wanted = min([depth for depth in depths if depth is not None], default=None)
                self.assertEqual(least_lead(machine, stands, goal), wanted, (table, stands, goal))
            self.check(table)

    def test_machines_of_three_stands_against_all_trees(self):
        source = random.Random(82)
        values = all_trees(3)
        met = set()
        for lacks, stands in itertools.product((0, 0, 0, 1, 2), ((0,), (0, 1), (0, 2), (0, 1, 2))):
            table = random_table(source, 3, 2, lacks, 2)
            goal = source.randrange(3)
            depths = [lead_tree_depth(table, stands, goal, value) for value in values]
            wanted = min([depth for depth in depths if depth is not None], default=None)
            found = least_lead(Machine(table), stands, goal)
            met.add(found)
            # There are seven blocks: some tree may need up to six letters.
            self.assertEqual(found if found in (0, 1, 2, 3) else None, wanted, (table, stands, goal))
        self.assertLessEqual({None, 1, 2}, met)

    def test_machines_of_up_to_six_stands(self):
        source = random.Random(83)
        for lacks, most_written, letters in itertools.product((0, 1, 3), (1, 2, 4), (2, 3)):
            for stands in range(1, 7):
                for _ in range(3):
                    self.check(random_table(source, stands, letters, lacks, most_written), source)

    def test_trees_far_deeper_than_there_are_stands(self):
        # Nothing but the letter 0 is written, so the tree is a row that leads home.
        machine = Machine(LONG_WAY_HOME)
        least = min(least_lead(machine, tuple(range(6)), goal) or 99 for goal in range(6))
        self.assertEqual(least, 30)
        self.check(LONG_WAY_HOME, random.Random(84))

    def test_kinds_of_the_answers(self):
        self.assertIs(type(least_lead(CHAIN, (0, 1, 2), 2)), int)
        waiting = [lead(CHOICE, (0, 1, 2), 0)]
        for value in waiting:
            self.assertIs(type(value), tuple)
            if value:
                self.assertIs(type(value[1]), tuple)
                waiting.extend(below for _, below in value[1])

    def test_repeated_calls(self):
        for stands, goal in itertools.product(subsets(3), range(3)):
            self.assertEqual(lead(CHAIN, stands, goal), lead(CHAIN, stands, goal))
            self.assertEqual(least_lead(CHAIN, stands, goal), least_lead(CHAIN, stands, goal))


class RefusalsTest(Refusing, unittest.TestCase):
    CALLS = (lead, least_lead, lambda machine, stands, goal: lead_depth(machine, stands, goal, ()))

    def test_bad_stands(self):
        for call, stands, goal in itertools.product(self.CALLS, BAD_STANDS, range(3)):
            self.refuse(BadStands, call, CHAIN, stands, goal)

    def test_bad_goals(self):
        for call, stands, goal in itertools.product(self.CALLS, subsets(3), BAD_STAND):
            self.refuse(BadStand, call, CHAIN, stands, goal)

    def test_bad_stands_go_ahead_of_bad_goals(self):
        for call, stands, goal in itertools.product(self.CALLS, BAD_STANDS, BAD_STAND):
            self.refuse(BadStands, call, CHAIN, stands, goal)

    def test_stands_and_goals_are_looked_at_for_any_value(self):
        for value in (None, 0, (), [], {}, "first", (0,), CHOSEN):
            self.refuse(BadStands, lead_depth, CHAIN, (1, 0), 0, value)
            self.refuse(BadStands, lead_depth, CHAIN, (True,), 3, value)
            self.refuse(BadStand, lead_depth, CHAIN, (0, 1), 3, value)
            self.refuse(BadStand, lead_depth, CHAIN, (0, 1), True, value)

    def test_calls_after_errors(self):
        before = lead(CHAIN, (0, 1, 2), 2)
        for call in self.CALLS:
            self.refuse(BadStands, call, CHAIN, (3,), 0)
            self.refuse(BadStand, call, CHAIN, (0,), 3)
        self.assertEqual(lead(CHAIN, (0, 1, 2), 2), before)


if __name__ == "__main__":
    unittest.main()
