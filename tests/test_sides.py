import copy
import itertools
import random
import unittest

from direct import (
    BAD_ROWS, LONG_WAY_OWN, LONG_WAY_SIDE, Refusing, all_rows, all_tables, histories, random_table, read_row,
    row_reaches, subsets,
)
from whichstand.errors import BadRow, BadSides
from whichstand.machines import Machine
from whichstand.owns import own_row
from whichstand.rows import least_row
from whichstand.sides import least_side_row, side_paper, side_shows, tells_side

# Three stands that write alike until stand 2 is reached.
CHAIN = Machine((((1, 0), (0, 0)), ((2, 0), (0, 0)), ((2, 1), (0, 0))))
SAME = Machine((((0, 0), (1, 1)), ((1, 0), (0, 1))))
# The letter 0 keeps the stands, 1 turns them, and all of it is written alike.
TURN = Machine((((0, 0), (1, 0)), ((1, 0), (2, 0)), ((2, 0), (0, 0))))

TWO_STAND_STEPS = (None, (0, 0), (1, 0), (0, 1), (1, 1))

BAD_SIDES = [
    # For a machine with three stands.
    (), (0,), (0, 1), (0, 1, 0, 1), (0, 0, 0, 0), [0, 1, 0], [], [None, 0, 1], {}, {0: 0, 1: 1, 2: 0}, "", "010", "0",
    None, True, False, 0, 1, 3, -1, (None, None, None), (None,), (6, 0, 0), (0, 0, 6), (0, -1, 0), (None, None, -1),
    (10 ** 30, 0, 0), (True, 0, 0), (0, False, 1), (None, True, None), ("0", 1, 0), (0, "", 0), (None, None, "None"),
    ((0,), 0, 0), (0, [1], 0), (0, {}, 0), (0, (), 0), ((0, 0, 0),), ((0, 0, 0),) * 3,
]


def all_sides(stands, most):
    """All sides with integers below most."""
    every = itertools.product((None,) + tuple(range(most)), repeat=stands)
    return [sides for sides in every if set(sides) != {None}]


def with_side(sides):
    return tuple(stand for stand, side in enumerate(sides) if side is not None)


def row_tells(table, sides, row):
    """Tell by the words of point 12 whether a row tells the side."""
    ends = [(side, read_row(table, stand, row)) for stand, side in enumerate(sides) if side is not None]
    if None in [end for _, end in ends]:
        return False
    return not any(one[1] == other[1] and side != beside
                   for (side, one), (beside, other) in itertools.combinations(ends, 2))


def expected_sides(table, sides, states):
    """The least row that tells the side, and the paper, of all states of knowledge."""
    some = [side for side in sides if side is not None]
    lots = set()
    for state, row in states.items():
        groups = {}
        for side, (at, group) in zip(some, state):
            groups.setdefault(group, set()).add((at, side))
        if all(len({side for _, side in group}) == 1 for group in groups.values()):
            return row, None
        if all(len({at for at, _ in group}) == len(group) for group in groups.values()):
            lots.add(tuple(sorted({tuple(sorted(group)) for group in groups.values()})))
    return None, sorted(lots)


def closed(table, sides, lots):
    """Tell by the words of point 13 whether some lots show that no row tells the side."""
    start = (tuple((stand, sides[stand]) for stand in with_side(sides)),)
    if start not in lots:
        return False
    for lot in lots:
        if all(len({side for _, side in block}) == 1 for block in lot):
            return False
        for letter in range(len(table[0])):
            reached = set()
            nowhere = False
            for block in lot:
                steps = [(table[stand][letter], side) for stand, side in block]
                if None in [step for step, _ in steps]:
                    nowhere = True
                    break
                for wrote in range(4):
                    part = {(step[0], side) for step, side in steps if step[1] == wrote}
                    nowhere = nowhere or len({stand for stand, _ in part}) < len(part)
                    if part:
                        reached.add(tuple(sorted(part)))
            if not nowhere and tuple(sorted(reached)) not in lots:
                return False
    return True


class RefusalsTest(Refusing, unittest.TestCase):
    CALLS = (
        lambda machine, sides: tells_side(machine, sides, (0,)),
        least_side_row,
        side_paper,
        lambda machine, sides: side_shows(machine, sides, []),
    )

    def test_bad_sides(self):
        for call, sides in itertools.product(self.CALLS, BAD_SIDES):
            self.refuse(BadSides, call, CHAIN, sides)

    def test_as_many_sides_as_stands(self):
        for stands, many in itertools.product(range(1, 7), range(9)):
            machine = Machine((((0, 0), (0, 0)),) * stands)
            for call in self.CALLS:
                if many == stands:
                    call(machine, (5,) * many)
                else:
                    self.refuse(BadSides, call, machine, (5,) * many)

    def test_bad_rows(self):
        for sides, (row, index) in itertools.product([(0, 1, 2), (0, None, 0), (5, 5, 5)], BAD_ROWS):
            error = self.refuse(BadRow, tells_side, CHAIN, sides, row)
            self.assertEqual(error.index, index, row)
            self.assertIs(type(error.index), type(index), row)

    def test_bad_sides_go_ahead_of_bad_rows(self):
        for sides, (row, _) in itertools.product(BAD_SIDES, BAD_ROWS):
            self.refuse(BadSides, tells_side, CHAIN, sides, row)

    def test_bad_sides_for_any_value_that_shows(self):
        for sides, value in itertools.product(BAD_SIDES, (None, 0, [], {}, "", [(((0, 0), (1, 1)),)])):
            self.refuse(BadSides, side_shows, CHAIN, sides, value)

    def test_a_bad_letter_behind_a_step_that_lacks(self):
        error = self.refuse(BadRow, tells_side, Machine(((None, None),) * 2), (0, 1), (0, 0, 2))
        self.assertEqual(error.index, 2)

    def test_calls_after_errors(self):
        before = least_side_row(CHAIN, (0, 1, 1))
        for call in self.CALLS:
            self.refuse(BadSides, call, CHAIN, (6, 1, 1))
        self.assertEqual(least_side_row(CHAIN, (0, 1, 1)), before)


class TellsSideTest(unittest.TestCase):
    def test_example(self):
        self.assertIs(tells_side(CHAIN, (0, None, 1), (0,)), True)

    def test_rows_that_tell_the_side_and_rows_that_do_not(self):
        cases = [
            ((0, 0, 1), (), False), ((0, 0, 1), (0,), True), ((0, 0, 1), (1,), False), ((0, 0, 1), (1, 0), False),
            ((0, 1, 1), (0,), False), ((0, 1, 1), (0, 0), True), ((0, 1, 0), (0,), False), ((0, 1, 0), (0, 0), True),
            ((0, 1, 2), (0,), False), ((0, 1, 2), (0, 0), True), ((5, None, 5), (), True), ((2, 2, 2), (1, 1), True),
            ((None, None, 3), (), True), ((None, 0, 1), (0,), True), ((0, 1, None), (0,), False),
            ((0, 1, None), (0, 0), True), ((0, 1, None), (1, 0, 0), False),
        ]
        for sides, row, answer in cases:
            self.assertIs(tells_side(CHAIN, sides, row), answer, (sides, row))

    def test_two_of_one_side_may_write_alike_and_unlike(self):
        machine = Machine((((0, 0), (0, 0)), ((1, 1), (1, 0)), ((2, 2), (2, 0)), ((3, 2), (3, 1))))
        self.assertIs(tells_side(machine, (0, 0, 1, 1), (0,)), True)
        self.assertIs(tells_side(machine, (0, 0, 1, 1), (1,)), False)
        self.assertIs(tells_side(machine, (0, 0, 0, 1), (1,)), True)
        self.assertIs(tells_side(machine, (0, 1, 2, 2), (0,)), True)
        self.assertIs(tells_side(machine, (0, 1, 2, 3), (0,)), False)
        self.assertIs(tells_side(machine, (0, 1, 2, 3), (0, 1)), True)

    def test_stands_without_a_side_may_lack_steps(self):
        machine = Machine((((0, 0), (0, 0)), ((1, 1), None), (None, (2, 1))))
        self.assertIs(tells_side(machine, (0, 1, None), (0,)), True)
        self.assertIs(tells_side(machine, (0, 1, 1), (0,)), False)
        self.assertIs(tells_side(machine, (0, None, 1), (1,)), True)
        self.assertIs(tells_side(machine, (0, 0, 0), (0,)), False)
        self.assertIs(tells_side(machine, (0, 0, None), (0,)), True)
        self.assertIs(tells_side(machine, (0, 1, None), (0, 1)), False)

    def test_forty_letters(self):
        self.assertIs(tells_side(CHAIN, (0, 1, 1), (0,) * 40), True)
        self.assertIs(tells_side(TURN, (0, 1, 1), (0,) * 40), False)
        with self.assertRaises(BadRow):
            tells_side(CHAIN, (0, 1, 1), (0,) * 41)

    def test_against_the_words_of_the_document(self):
        source = random.Random(71)
        for stands, letters, lacks in itertools.product(range(1, 7), (2, 3), (0, 1, 3)):
            machine = Machine(random_table(source, stands, letters, lacks, 2))
            for sides in source.sample(all_sides(stands, 2), min(40, 3 ** stands - 1)):
                for row in all_rows(letters, 3):
                    wanted = row_tells(machine.table, sides, row)
                    self.assertIs(tells_side(machine, sides, row), wanted, (machine.table, sides, row))


class LeastSideRowTest(unittest.TestCase):
    def check(self, table, sides, states=None):
        """Compare least_side_row, side_paper and side_shows with a computation for each stand by itself."""
        machine = Machine(table)
        row, lots = expected_sides(table, sides, states or histories(table, with_side(sides)))
        self.assertEqual(least_side_row(machine, sides), row, (table, sides))
        self.assertEqual(side_paper(machine, sides), lots, (table, sides))
        if row is None:
            self.assertIs(side_shows(machine, sides, lots), True, (table, sides))
        elif len(row) <= 40:
            self.assertIs(tells_side(machine, sides, row), True, (table, sides))

    def test_example(self):
        self.assertEqual([least_side_row(CHAIN, (0, 0, 1)), least_side_row(CHAIN, (0, 1, 1))], [(0,), (0, 0)])
        self.assertIsNone(least_side_row(SAME, (0, 1)))

    def test_all_on_one_side(self):
        nothing = Machine(((None, None), (None, None), (None, None)))
        for machine, side in itertools.product((CHAIN, TURN, nothing), range(6)):
            for stands in subsets(3):
                sides = tuple(side if stand in stands else None for stand in range(3))
                self.assertEqual(least_side_row(machine, sides), ())
                self.assertIsNone(side_paper(machine, sides))

    def test_which_numbers_the_sides_have_means_nothing(self):
        for one, other in itertools.permutations(range(6), 2):
            self.assertEqual(least_side_row(CHAIN, (one, other, other)), (0, 0))
            self.assertIsNone(least_side_row(SAME, (one, other)))

    def test_two_machines_in_one_table(self):
        # Each has two stands that change places at each letter, and writes where it is. The second one does
        # not at the letter 1 in its stand 3, which each row with 1 twice comes to.
        one = (((1, 0), (1, 0)), ((0, 1), (0, 1)))
        machine = Machine(one + (((3, 0), (3, 0)), ((2, 1), (2, 0))))
        self.assertEqual(least_side_row(machine, (0, 0, 1, 1)), (1, 1))
        self.check(machine.table, (0, 0, 1, 1))
        # It does not tell the stands: 2 and 3 write alike.
        self.assertFalse(row_reaches(machine.table, (2, 3), "last", (1, 1)))
        told = Machine(one + (((3, 0), (3, 2)), ((2, 1), (2, 3))))
        self.assertEqual(least_side_row(told, (0, 0, 1, 1)), (1,))
        # The same machine twice.
        twice = Machine(one + (((3, 0), (3, 0)), ((2, 1), (2, 1))))
        self.assertIsNone(least_side_row(twice, (0, 0, 1, 1)))
        # The second one is a machine of one stand that writes nothing but 0, the first one lacks a step.
        self.assertEqual(least_side_row(Machine(one + (((2, 0), (2, 0)),)), (0, 0, 1)), (0, 0))
        lacking = (((1, 0), None), ((0, 1), (0, 1)))
        self.assertEqual(least_side_row(Machine(lacking + (((2, 1), (2, 0)),)), (0, 0, 1)), (0, 0))

    def test_stands_without_a_side_mean_nothing(self):
        lacking = Machine(CHAIN.table + ((None, None),))
        self.assertEqual(least_side_row(lacking, (0, 1, 1, None)), (0, 0))
        self.assertEqual(least_side_row(lacking, (0, 1, None, None)), (0, 0))
        self.assertIsNone(least_side_row(lacking, (0, 1, 1, 1)))
        self.assertEqual(side_paper(lacking, (0, 1, 1, 1)), [(((0, 0), (1, 1), (2, 1), (3, 1)),)])

    def test_none_where_no_row_tells_the_side(self):
        for sides in ((0, 1, None), (0, 1, 1), (0, 1, 2), (None, 4, 2)):
            self.assertIsNone(least_side_row(TURN, sides))
        self.assertIsNone(least_side_row(Machine(((None, None), (None, None))), (0, 1)))

    def test_two_of_unlike_sides_that_write_alike_and_meet(self):
        machine = Machine((((2, 0), (0, 1)), ((2, 0), (1, 2)), ((2, 0), (2, 3))))
        self.assertEqual(least_side_row(machine, (0, 1, None)), (1,))
        self.assertEqual(least_side_row(machine, (0, 0, 1)), (1,))
        met = Machine((((2, 0), (2, 0)), ((2, 0), (2, 0)), ((2, 0), (2, 3))))
        self.assertIsNone(least_side_row(met, (0, 1, None)))
        self.assertEqual(side_paper(met, (0, 1, None)), [(((0, 0), (1, 1)),)])
        # Of one side they may meet.
        self.assertEqual(least_side_row(met, (0, 0, 1)), (1,))

    def test_the_least_of_several_shortest_rows(self):
        machine = Machine((((0, 0), (0, 0), (0, 0)), ((1, 0), (1, 1), (1, 1))))
        self.assertEqual(least_side_row(machine, (0, 1)), (1,))
        shorter = Machine((((2, 0),) * 2 + ((0, 0),), ((3, 0),) * 2 + ((1, 1),), ((2, 2),) * 3, ((3, 3),) * 3))
        self.assertEqual(least_side_row(shorter, (0, 1, None, None)), (2,))

    def test_sides_of_one_stand_each_are_told_as_the_first_stand_is(self):
        source = random.Random(72)
        for _ in range(60):
            stands = source.randrange(1, 7)
            machine = Machine(random_table(source, stands, source.choice((2, 3)), source.choice((0, 1, 2)), 2))
            sides = tuple(source.sample(range(6), stands))
            self.assertEqual(least_side_row(machine, sides), least_row(machine, tuple(range(stands)), "first"))

    def test_one_stand_against_all_others_is_told_by_its_own_row(self):
        source = random.Random(73)
        for _ in range(60):
            stands = source.randrange(2, 7)
            machine = Machine(random_table(source, stands, source.choice((2, 3)), source.choice((0, 1, 2)), 2))
            for stand in range(stands):
                sides = tuple(int(other == stand) for other in range(stands))
                self.assertEqual(least_side_row(machine, sides), own_row(machine, tuple(range(stands)), stand))

    def test_more_letters_than_a_row_that_is_passed_can_have(self):
        for table, sides, length in (
            (LONG_WAY_SIDE, (0, 0, 0, 1, 1, None), 43),
            (LONG_WAY_OWN, (1, 0, 0, 0, 0, None), 47),
        ):
            row = least_side_row(Machine(table), sides)
            self.assertEqual(len(row), length)
            self.assertTrue(row_tells(table, sides, row))
            self.check(table, sides)
            with self.assertRaises(BadRow):
                tells_side(Machine(table), sides, row)

    def test_all_machines_of_two_stands_against_all_rows(self):
        # Two stands on unlike sides are led to two unlike stands or nowhere: a row of four letters is enough.
        for table in all_tables(2, TWO_STAND_STEPS):
            machine = Machine(table)
            for sides in all_sides(2, 2):
                rows = (row for row in all_rows(2, 4) if row_tells(table, sides, row))
                self.assertEqual(least_side_row(machine, sides), next(rows, None), (table, sides))
                self.check(table, sides)

    def test_machines_of_three_stands_against_all_rows(self):
        source = random.Random(74)
        for lacks, most_written in itertools.product((0, 2, 4), (1, 2)):
            for _ in range(6):
                table = random_table(source, 3, 2, lacks, most_written)
                for sides in all_sides(3, 2) + [(0, 1, 2)]:
                    rows = (row for row in all_rows(2, 8) if row_tells(table, sides, row))
                    self.assertEqual(least_side_row(Machine(table), sides), next(rows, None), (table, sides))

    def test_machines_of_up_to_six_stands_for_each_stand_by_itself(self):
        source = random.Random(75)
        for lacks, most_written, letters in itertools.product((0, 1, 3), (1, 2, 4), (2, 3)):
            for stands in range(1, 7):
                table = random_table(source, stands, letters, lacks, most_written)
                choices = all_sides(stands, 3)
                for sides in source.sample(choices, min(12, len(choices))):
                    self.check(table, sides)

    def test_kinds_of_the_answers(self):
        row = least_side_row(CHAIN, (0, 1, 1))
        self.assertIs(type(row), tuple)
        self.assertEqual({type(letter) for letter in row}, {int})

    def test_repeated_calls(self):
        for sides in all_sides(3, 3):
            self.assertEqual(least_side_row(CHAIN, sides), least_side_row(CHAIN, sides))


class SidePaperTest(unittest.TestCase):
    def test_example(self):
        self.assertIsNone(side_paper(CHAIN, (3, 3, 3)))
        self.assertEqual(side_paper(SAME, (0, 1)), [(((0, 0), (1, 1)),), (((0, 1), (1, 0)),)])

    def test_the_first_lot_is_in_it(self):
        for sides in all_sides(3, 6):
            lots = side_paper(TURN, sides)
            if len(set(sides) - {None}) == 1:
                self.assertIsNone(lots)
                continue
            start = tuple((stand, sides[stand]) for stand in with_side(sides))
            self.assertIn((start,), lots)
            self.assertEqual(lots, sorted(set(lots)))
            self.assertEqual(len(lots), 3)

    def test_lots_of_several_blocks(self):
        # Two pairs that are told from each other, but not within.
        machine = Machine((((1, 0), (0, 0)), ((0, 0), (1, 0)), ((3, 1), (2, 1)), ((2, 1), (3, 1))))
        pairs = [(((0, 0), (1, 1)), ((2, 0), (3, 1))), (((0, 1), (1, 0)), ((2, 1), (3, 0)))]
        self.assertEqual(side_paper(machine, (0, 1, 0, 1)), [pairs[0], (((0, 0), (1, 1), (2, 0), (3, 1)),), pairs[1]])
        # A block that is told already stays beside one that is not.
        half = [(((0, 0), (1, 1)), ((2, 0),)), (((0, 0), (1, 1), (2, 0)),), (((0, 1), (1, 0)), ((3, 0),))]
        self.assertEqual(side_paper(machine, (0, 1, 0, None)), half)
        self.assertIsNone(side_paper(machine, (0, 0, 1, 1)))

    def test_stands_of_one_side_come_together_once(self):
        # 0 and 1 are of one side and meet; stand 2 writes as they do, and never meets them.
        machine = Machine((((0, 0), (0, 0)), ((0, 0), (0, 0)), ((2, 0), (2, 0))))
        self.assertEqual(side_paper(machine, (4, 4, 2)), [(((0, 4), (1, 4), (2, 2)),), (((0, 4), (2, 2)),)])
        # Of unlike blocks, one stand may be possible on both sides.
        apart = Machine((((0, 0), None), ((0, 1), None), ((2, 2), None), ((3, 2), None)))
        self.assertEqual(
            side_paper(apart, (0, 1, 0, 1)),
            [(((0, 0),), ((0, 1),), ((2, 0), (3, 1))), (((0, 0), (1, 1), (2, 0), (3, 1)),)],
        )

    def test_a_letter_that_leads_nowhere(self):
        nothing = Machine(((None, None), (None, None)))
        self.assertEqual(side_paper(nothing, (0, 1)), [(((0, 0), (1, 1)),)])
        meet = Machine((((1, 0), (0, 0)), ((1, 0), None)))
        self.assertEqual(side_paper(meet, (0, 1)), [(((0, 0), (1, 1)),)])

    def test_kinds_of_the_answer(self):
        lots = side_paper(SAME, (0, 1))
        self.assertIs(type(lots), list)
        for lot in lots:
            self.assertIs(type(lot), tuple)
            for block in lot:
                self.assertIs(type(block), tuple)
                self.assertEqual({type(place) for place in block}, {tuple})

    def test_a_new_list_at_each_call(self):
        first = side_paper(SAME, (0, 1))
        second = side_paper(SAME, (0, 1))
        self.assertIsNot(first, second)
        first.clear()
        self.assertEqual(second, [(((0, 0), (1, 1)),), (((0, 1), (1, 0)),)])
        self.assertEqual(side_paper(SAME, (0, 1)), second)


class SideShowsTest(unittest.TestCase):
    SIDES = (0, 1, None)
    TURNED = side_paper(TURN, SIDES)

    def check(self, machine, sides, value, answer):
        before = copy.deepcopy(value)
        self.assertIs(side_shows(machine, sides, value), answer, (machine.table, sides, value))
        self.assertEqual(value, before)

    def test_example(self):
        self.check(SAME, (0, 1), side_paper(SAME, (0, 1)), True)

    def test_a_paper_as_it_is_and_as_a_tuple_and_in_another_order(self):
        self.assertEqual(len(self.TURNED), 3)
        for lots in itertools.permutations(self.TURNED):
            self.check(TURN, self.SIDES, list(lots), True)
            self.check(TURN, self.SIDES, lots, True)

    def test_a_lot_that_comes_twice(self):
        self.check(TURN, self.SIDES, self.TURNED + self.TURNED, True)

    def test_a_lot_left_out(self):
        for left_out in range(3):
            self.check(TURN, self.SIDES, self.TURNED[:left_out] + self.TURNED[left_out + 1:], False)
        for value in ([], ()):
            for sides in all_sides(3, 2):
                self.check(TURN, sides, value, False)

    def test_any_lot_left_out_of_any_paper(self):
        source = random.Random(76)
        for stands, letters, lacks in itertools.product((2, 3, 4), (2, 3), (0, 2)):
            for _ in range(4):
                machine = Machine(random_table(source, stands, letters, lacks, 2))
                for sides in source.sample(all_sides(stands, 2), 8):
                    lots = side_paper(machine, sides)
                    for lot in lots or ():
                        self.check(machine, sides, [other for other in lots if other != lot], False)

    def test_further_lots_that_belong_there(self):
        three = [(((0, 0), (1, 1), (2, 1)),), (((0, 1), (1, 0), (2, 1)),), (((0, 1), (1, 1), (2, 0)),)]
        self.assertEqual(side_paper(TURN, (0, 1, 1)), three)
        self.check(TURN, self.SIDES, self.TURNED + three, True)
        self.check(TURN, (0, 1, 1), self.TURNED + three, True)
        self.check(TURN, (1, 0, 1), three + self.TURNED, True)
        self.check(TURN, self.SIDES, three, False)
        self.check(TURN, self.SIDES, self.TURNED + three[:2], False)
        # Sides that no stand lies on at first.
        others = side_paper(TURN, (None, 5, 3))
        self.check(TURN, self.SIDES, self.TURNED + others, True)
        self.check(TURN, self.SIDES, self.TURNED + others[1:], False)
        # Lots of several blocks, one of which may be told.
        blocks = [(((stand, 4),), block) for stand in range(3) for block in (((0, 0), (1, 1), (2, 1)),)]
        turned = {tuple(sorted(lot)) for lot in blocks}
        for _ in range(3):
            turned |= {
                tuple(sorted(tuple(sorted(((stand + 1) % 3, side) for stand, side in block)) for block in lot))
                for lot in turned
            }
        self.check(TURN, self.SIDES, self.TURNED + sorted(turned), True)
        for lot in turned:
            self.check(TURN, self.SIDES, self.TURNED + sorted(turned - {lot}), False)

    def test_papers_of_several_sides_together(self):
        source = random.Random(77)
        together = 0
        for _ in range(30):
            machine = Machine(random_table(source, 3, 2, 1, 2))
            papers = {sides: side_paper(machine, sides) for sides in all_sides(3, 2)}
            lots = sum([found for found in papers.values() if found is not None], [])
            source.shuffle(lots)
            for sides, found in papers.items():
                # Where a row tells the side, the lot to begin with is in none of the papers.
                self.check(machine, sides, lots, found is not None)
                together += found is not None
        self.assertGreater(together, 50)

    def test_some_lots_of_several_papers_against_the_words_of_the_document(self):
        source = random.Random(78)
        answers = {True: 0, False: 0}
        for _ in range(150):
            stands = source.randrange(2, 5)
            machine = Machine(random_table(source, stands, 2, source.choice((0, 1, 3)), source.choice((1, 1, 2))))
            choices = all_sides(stands, 2)
            papers = [side_paper(machine, sides) or [] for sides in choices]
            for _ in range(20):
                value = sum(source.sample(papers, 2), [])
                if source.randrange(2) and value:
                    value.remove(source.choice(value))
                for sides in source.sample(choices, 4):
                    wanted = closed(machine.table, sides, value)
                    answers[wanted] += 1
                    self.check(machine, sides, value, wanted)
        self.assertGreater(min(answers.values()), 300)

    def test_without_the_first_lot(self):
        self.check(TURN, (0, 1, 1), self.TURNED, False)
        self.check(TURN, (0, 2, None), self.TURNED, False)
        self.check(TURN, (None, 0, 1), self.TURNED, True)
        self.check(TURN, (None, None, 1), self.TURNED, False)

    def test_a_lot_that_is_told(self):
        for lot in (
            (((0, 0),),), (((0, 0), (1, 0)),), (((0, 0), (1, 0), (2, 0)),), (((0, 0),), ((0, 1),)),
            (((0, 1), (1, 1)), ((2, 0),)),
        ):
            self.check(TURN, self.SIDES, self.TURNED + [lot], False)
            self.check(TURN, self.SIDES, [lot] + self.TURNED, False)
        for sides in ((0, 0, 0), (1, None, 1), (None, 2, None)):
            start = (tuple((stand, sides[stand]) for stand in with_side(sides)),)
            self.check(TURN, sides, [start], False)

    def test_no_value_shows_it_where_a_row_tells_the_side(self):
        places = list(itertools.product((0, 1), (0, 1)))
        blocks = [(place,) for place in places] + [((0, one), (1, other)) for one in (0, 1) for other in (0, 1)]
        blocks = sorted(blocks)
        lots = [lot for many in (1, 2) for lot in itertools.combinations(blocks, many)]
        values = [value for many in (1, 2) for value in itertools.combinations(lots, many)]
        for table in list(all_tables(2, TWO_STAND_STEPS))[::60]:
            machine = Machine(table)
            found = [value for value in values if side_shows(machine, (0, 1), value)]
            self.assertEqual(len(found) > 0, least_side_row(machine, (0, 1)) is None, table)

    def test_where_a_letter_leads_nowhere_because_a_step_lacks(self):
        nothing = Machine(((None, None), (None, None)))
        start = (((0, 0), (1, 1)),)
        self.check(nothing, (0, 1), [start], True)
        self.check(nothing, (0, 1), [start, (((0, 0),), ((0, 0), (1, 1)))], True)
        self.check(nothing, (0, 1), [start, (((0, 0),), ((1, 1),))], False)
        # The step lacks in another block than the one that is not told.
        machine = Machine((((0, 0), None), ((1, 0), None), (None, None)))
        self.check(machine, (0, 1, None), [start], True)
        self.check(machine, (0, 1, None), [start, (((0, 0), (1, 1)), ((2, 0),))], True)
        self.check(machine, (0, 1, None), [start, (((0, 1), (1, 0)), ((2, 0),))], True)
        self.check(machine, (0, 1, 1), [(((0, 0), (1, 1), (2, 1)),)], True)
        turning = Machine((((1, 0), None), ((0, 0), None)))
        self.check(turning, (0, 1), [start], False)

    def test_where_two_of_unlike_sides_write_alike_and_meet(self):
        machine = Machine((((2, 0), (2, 0)), ((2, 0), (2, 0)), ((2, 0), (2, 3))))
        self.check(machine, (0, 1, None), [(((0, 0), (1, 1)),)], True)
        # Of one side they lead on, and so do two that write unlike and meet.
        self.check(machine, (0, 0, None), [(((0, 0), (1, 0)),)], False)
        self.check(machine, (0, 0, 1), [(((0, 0), (1, 0), (2, 1)),)], False)
        unlike = Machine((((2, 0), (2, 0)), ((2, 1), (2, 1)), ((2, 0), (2, 3))))
        self.check(unlike, (0, 1, None), [(((0, 0), (1, 1)),)], False)

    def test_things_in_it_that_are_no_lots(self):
        good = ((0, 0), (1, 1))
        things = [
            (), ((),), ((), good), [], [good], ([(0, 0), (1, 1)],), [[(0, 0), (1, 1)]], ([[0, 0], [1, 1]],),
            (((0, 0), [1, 1]),), (([0, 0], (1, 1)),), {}, {good: 1}, ({(0, 0): 1},), "", "01", ("01",), (("00", "11"),),
            0, True, None, (0,), (None,), (good, None), ((None,),), ((None, (0, 0)),), good, (good, 0), ((0, 1),),
            (((1, 1), (0, 0)),), (((0, 0), (0, 0)),), (((0, 0), (0, 1)),), (((0, 0), (0, 1), (1, 1)),),
            (((0, 0), (1, 0), (1, 1)),), (((0, 0), (1, 1), (1, 1)),), (((0, 0), (2, 1), (1, 1)),),
            (good, good), (((0, 1), (1, 0)), good), (((1, 0),), ((0, 1),)), (good, ((0, 0),)),
            (((0, 0), (True, 1)),), (((0, 0), (1, True)),), (((False, 0), (1, 1)),), (((0, False), (1, 1)),),
            (((0, 0), (3, 1)),), (((-1, 0), (1, 1)),), (((0, 0), (10 ** 30, 1)),), (((0, 6), (1, 1)),),
            (((0, 0), (1, -1)),), (((0, 0), (1, 10 ** 30)),), (((0, 0), (1, None)),), (((0, None), (1, 1)),),
            (((None, 0), (1, 1)),), (((0, 0), (1, "1")),), (((0, 0), ("1", 1)),), (((0, 0), (1,)),),
            (((0, 0), (1, 1, 1)),), (((0, 0), ()),), (((0, 0), 1),), (((0, 0), (1, (1,))),), (((0, 0), ((1,), 1)),),
            (((0, 0), (1, [1])),), (((0, 0), (1, {})),), ((good,),),
        ]
        for thing in things:
            self.check(TURN, self.SIDES, self.TURNED + [thing], False)
            self.check(TURN, self.SIDES, [thing] + self.TURNED, False)
            self.check(TURN, self.SIDES, tuple(self.TURNED) + (thing,), False)
            self.check(TURN, self.SIDES, [thing], False)

    def test_true_and_false_are_no_stands_and_no_sides(self):
        nothing = Machine(((None, None), (None, None)))
        self.check(nothing, (0, 1), [(((0, 0), (1, 1)),)], True)
        for lot in ((((0, 0), (1, True)),), (((0, 0), (True, 1)),), (((0, False), (1, 1)),), (((False, 0), (1, 1)),)):
            self.check(nothing, (0, 1), [lot], False)
            self.check(nothing, (0, 1), [(((0, 0), (1, 1)),), lot], False)

    def test_what_lots_there_are_depends_on_the_machine(self):
        four = Machine(TURN.table + (((3, 0), (3, 0)),))
        further = [(((3, 0),), ((0, 0), (1, 1), (2, 1))), (((3, 0),), ((0, 1), (1, 0), (2, 1)))]
        further = [tuple(sorted(lot)) for lot in further + [(((3, 0),), ((0, 1), (1, 1), (2, 0)))]]
        self.check(four, (0, 1, None, None), self.TURNED + further, True)
        self.check(TURN, (0, 1, None), self.TURNED + further, False)

    def test_values_of_every_other_kind(self):
        values = [
            None, True, False, 0, 1, -1, "", "paper", {}, {self.TURNED[0]: True}, {lot: True for lot in self.TURNED},
            {0: self.TURNED[0]}, self.TURNED[0], self.TURNED[0][0], (0, 0), [None], [[]], [0], [True],
        ]
        for value in values:
            self.check(TURN, self.SIDES, value, False)
            self.check(TURN, (0, None, None), value, False)

    def test_repeated_calls(self):
        value = list(self.TURNED)
        for _ in range(2):
            self.assertIs(side_shows(TURN, self.SIDES, value), True)
            self.assertIs(side_shows(TURN, self.SIDES, value[1:]), False)
        self.assertEqual(value, self.TURNED)


if __name__ == "__main__":
    unittest.main()
