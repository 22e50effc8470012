import copy
import itertools
import random
import unittest

from direct import (
    AIMS, BAD_AIMS, BAD_ROWS, BAD_STANDS, LONG_WAY_FIRST, LONG_WAY_HOME, Refusing, all_rows, all_tables,
    expected_rows, histories, lot_behind, random_table, read_row, row_reaches, subsets,
)
from whichstand.apart import alike
from whichstand.errors import BadAim, BadRow, BadStands
from whichstand.machines import Machine
from whichstand.rows import least_row, paper, reaches, shows

# Three stands that write alike until stand 2 is reached.
CHAIN = Machine((((1, 0), (0, 0)), ((2, 0), (0, 0)), ((2, 1), (0, 0))))
SAME = Machine((((0, 0), (1, 1)), ((1, 0), (0, 1))))
# The letter 0 keeps the stands, 1 turns them, and all of it is written alike.
TURN = Machine((((0, 0), (1, 0)), ((1, 0), (2, 0)), ((2, 0), (0, 0))))
# Stands 0 and 1 write alike and meet at the letter 0, and write unlike at the letter 1.
MEET = Machine((((2, 0), (0, 1)), ((2, 0), (1, 2)), ((2, 0), (2, 3))))

TWO_STAND_STEPS = (None, (0, 0), (1, 0), (0, 1), (1, 1))


def questions(machine):
    """Each set of stands of a machine with each aim."""
    return itertools.product(subsets(len(machine)), AIMS)


class RefusalsTest(Refusing, unittest.TestCase):
    """Errors that reaches, least_row, paper and shows have in common."""

    CALLS = (
        lambda machine, stands, aim: reaches(machine, stands, aim, (0,)),
        least_row,
        paper,
        lambda machine, stands, aim: shows(machine, stands, aim, []),
    )

    def test_bad_stands(self):
        for call, stands, aim in itertools.product(self.CALLS, BAD_STANDS, AIMS):
            self.refuse(BadStands, call, CHAIN, stands, aim)

    def test_bad_aims(self):
        for call, stands, aim in itertools.product(self.CALLS, [(0,), (0, 2), (0, 1, 2)], BAD_AIMS):
            self.refuse(BadAim, call, CHAIN, stands, aim)

    def test_stands_go_ahead_of_aims(self):
        for call, stands, aim in itertools.product(self.CALLS, BAD_STANDS, BAD_AIMS):
            self.refuse(BadStands, call, CHAIN, stands, aim)

    def test_bad_rows(self):
        for stands, aim, (row, index) in itertools.product([(0,), (1, 2), (0, 1, 2)], AIMS, BAD_ROWS):
            error = self.refuse(BadRow, reaches, CHAIN, stands, aim, row)
            self.assertEqual(error.index, index, row)
            self.assertIs(type(error.index), type(index), row)

    def test_a_bad_letter_behind_a_step_that_lacks(self):
        lacking = Machine(((None, None), (None, None)))
        for aim in AIMS:
            with self.assertRaises(BadRow) as caught:
                reaches(lacking, (0, 1), aim, (0, 0, 2))
            self.assertEqual(caught.exception.index, 2)

    def test_a_letter_that_another_machine_reads(self):
        wide = Machine((((0, 0), (0, 0), (0, 0)),))
        self.assertTrue(reaches(wide, (0,), "home", (2,)))
        self.refuse(BadRow, reaches, CHAIN, (0,), "home", (2,))

    def test_stands_and_aims_go_ahead_of_rows(self):
        for row, _ in BAD_ROWS:
            for stands, aim in itertools.product([(), (1, 0), [0], (True,), (3,)], ["first", "x", None]):
                self.refuse(BadStands, reaches, CHAIN, stands, aim, row)
            for aim in BAD_AIMS:
                self.refuse(BadAim, reaches, CHAIN, (0, 1), aim, row)

    def test_stands_and_aims_are_looked_at_for_any_value_that_shows(self):
        for value in (None, 0, (), {}, "first", [((0,),)], [((0, 1, 2),)]):
            self.refuse(BadStands, shows, CHAIN, (1, 0), "first", value)
            self.refuse(BadStands, shows, CHAIN, [0], "x", value)
            self.refuse(BadAim, shows, CHAIN, (0, 1), "x", value)

    def test_what_stands_are_depends_on_the_machine(self):
        for stands in range(1, 7):
            machine = Machine((((0, 0), (0, 0)),) * stands)
            self.assertEqual(least_row(machine, tuple(range(stands)), "home"), () if stands == 1 else (0,))
            with self.assertRaises(BadStands):
                least_row(machine, tuple(range(stands + 1)), "home")
            with self.assertRaises(BadStands):
                least_row(machine, (stands,), "home")

    def test_calls_after_errors(self):
        before = [least_row(CHAIN, (0, 1, 2), aim) for aim in AIMS]
        for call in self.CALLS:
            self.refuse(BadStands, call, CHAIN, (0, 1, 2, 3), "first")
            self.refuse(BadAim, call, CHAIN, (0, 1, 2), "second")
        self.assertEqual([least_row(CHAIN, (0, 1, 2), aim) for aim in AIMS], before)


class ReachesTest(unittest.TestCase):
    def test_example(self):
        found = [
            reaches(CHAIN, (0, 1, 2), "last", (0, 0)),
            reaches(CHAIN, (0, 2), "first", (0,)),
            reaches(CHAIN, (0, 1), "home", (0, 0)),
        ]
        self.assertEqual(found, [True, True, True])

    def test_each_aim_with_all_stands_some_and_one(self):
        cases = [
            ((0, 1, 2), (), (False, False, False)),
            ((0, 1, 2), (0,), (False, False, False)),
            ((0, 1, 2), (0, 0), (True, True, True)),
            ((0, 1, 2), (1,), (False, True, True)),
            ((0, 1, 2), (0, 1), (False, True, True)),
            ((0, 2), (0,), (True, True, False)),
            ((0, 1), (0,), (False, False, False)),
            ((1, 2), (0,), (True, True, True)),
            ((0, 1), (0, 0), (True, True, True)),
            ((1,), (), (True, True, True)),
            ((1,), (0, 1, 0), (True, True, True)),
        ]
        for stands, row, answers in cases:
            self.assertEqual(tuple(reaches(CHAIN, stands, aim, row) for aim in AIMS), answers, (stands, row))

    def test_two_stands_that_write_alike_and_meet(self):
        self.assertEqual([reaches(MEET, (0, 1), aim, (0,)) for aim in AIMS], [False, True, True])
        self.assertEqual([reaches(MEET, (0, 1), aim, (0, 1)) for aim in AIMS], [False, True, True])
        self.assertEqual([reaches(MEET, (0, 1), aim, (1,)) for aim in AIMS], [True, True, False])
        self.assertEqual([reaches(MEET, (0, 1), aim, (1, 0)) for aim in AIMS], [True, True, True])

    def test_a_step_that_lacks_for_one_of_the_stands(self):
        # Stand 1 lacks the letter 0 behind the letter 1, stand 2 lacks the letter 1.
        machine = Machine((((0, 0), (0, 0)), ((1, 1), (2, 1)), (None, None)))
        for aim in AIMS:
            self.assertFalse(reaches(machine, (0, 2), aim, (1,)))
            self.assertFalse(reaches(machine, (0, 1, 2), aim, (0,)))
            self.assertFalse(reaches(machine, (0, 1), aim, (0, 1, 0)))
            self.assertFalse(reaches(machine, (2,), aim, (0,)))
            self.assertTrue(reaches(machine, (2,), aim, ()))
            self.assertEqual(reaches(machine, (0, 1), aim, (0, 1)), aim != "home")
            self.assertTrue(reaches(machine, (0,), aim, (0, 1, 0)))

    def test_only_the_whole_of_what_is_written_counts(self):
        # What is written first is unlike, then alike, and the two end apart.
        machine = Machine((((2, 0), (0, 0)), ((3, 1), (0, 0)), ((2, 2), (0, 0)), ((3, 2), (0, 0))))
        for length in (1, 2, 3):
            found = [reaches(machine, (0, 1), aim, (0,) * length) for aim in AIMS]
            self.assertEqual(found, [True, True, False])

    def test_forty_letters(self):
        for aim in AIMS:
            self.assertTrue(reaches(CHAIN, (0, 1, 2), aim, (0,) * 40))
            self.assertFalse(reaches(TURN, (0, 1, 2), aim, (0,) * 40))
            with self.assertRaises(BadRow):
                reaches(CHAIN, (0, 1, 2), aim, (0,) * 41)

    def test_the_answer_is_a_boolean(self):
        for stands, aim in questions(CHAIN):
            for row in ((), (0,), (0, 0)):
                self.assertIs(type(reaches(CHAIN, stands, aim, row)), bool)

    def test_a_row_that_tells_the_first_stand_tells_the_last_one(self):
        source = random.Random(11)
        told = 0
        for letters, lacks in itertools.product((2, 3), (0, 2)):
            for _ in range(30):
                machine = Machine(random_table(source, 3, letters, lacks, 3))
                for row in all_rows(letters, 3):
                    if reaches(machine, (0, 1, 2), "first", row):
                        told += 1
                        self.assertTrue(reaches(machine, (0, 1, 2), "last", row))
        self.assertGreater(told, 100)

    def test_against_the_words_of_the_document(self):
        source = random.Random(12)
        for stands, letters, lacks in itertools.product(range(1, 7), (2, 3), (0, 1, 3)):
            machine = Machine(random_table(source, stands, letters, lacks, 2))
            for some, aim in questions(machine):
                for row in all_rows(letters, 2):
                    expected = row_reaches(machine.table, some, aim, row)
                    self.assertIs(reaches(machine, some, aim, row), expected, (machine.table, some, aim, row))


class LeastRowTest(unittest.TestCase):
    def check(self, table):
        """Compare least_row, paper and shows with a computation that follows each stand by itself."""
        machine = Machine(table)
        for stands in subsets(len(table)):
            states = histories(table, stands)
            for aim in AIMS:
                row, lots = expected_rows(table, stands, aim, states)
                self.assertEqual(least_row(machine, stands, aim), row, (table, stands, aim))
                self.assertEqual(paper(machine, stands, aim), lots, (table, stands, aim))
                if row is None:
                    self.assertIs(shows(machine, stands, aim, lots), True, (table, stands, aim))
                elif len(row) <= 40:
                    self.assertIs(reaches(machine, stands, aim, row), True, (table, stands, aim))

    def test_example(self):
        found = [least_row(CHAIN, (0, 1, 2), aim) for aim in ("first", "last", "home")]
        self.assertEqual(found, [(0, 0), (1,), (1,)])
        self.assertIsNone(least_row(SAME, (0, 1), "last"))

    def test_one_stand_needs_the_empty_row(self):
        for machine in (CHAIN, SAME, TURN, Machine(((None, None, None), (None, None, None)))):
            for stand, aim in itertools.product(range(len(machine)), AIMS):
                self.assertEqual(least_row(machine, (stand,), aim), ())

    def test_none_where_no_row_reaches_the_aim(self):
        self.assertEqual([least_row(SAME, (0, 1), aim) for aim in AIMS], [None, None, None])
        for stands in ((0, 1), (1, 2), (0, 1, 2)):
            self.assertEqual([least_row(TURN, stands, aim) for aim in AIMS], [None, None, None])
        nothing = Machine(((None, None), ((1, 1), None)))
        self.assertEqual([least_row(nothing, (0, 1), aim) for aim in AIMS], [None, None, None])

    def test_two_stands_that_write_alike_and_meet(self):
        self.assertEqual([least_row(MEET, (0, 1), aim) for aim in AIMS], [(1,), (0,), (0,)])
        # What comes together at the letter 0 could be told from stand 2 only.
        machine = Machine((((2, 0), (0, 0)), ((2, 0), (0, 0)), ((2, 1), (2, 1))))
        self.assertEqual([least_row(machine, (0, 1), aim) for aim in AIMS], [None, (0,), (0,)])
        self.assertEqual([least_row(machine, (0, 1, 2), aim) for aim in AIMS], [None, (0,), (0,)])
        self.assertEqual([least_row(machine, (0, 2), aim) for aim in AIMS], [(0,), (0,), (0,)])

    def test_home_does_not_look_at_what_is_written(self):
        machine = Machine((((0, 0), (1, 0)), ((1, 1), (1, 1))))
        self.assertEqual([least_row(machine, (0, 1), aim) for aim in AIMS], [(0,), (0,), (1,)])
        apart = Machine((((0, 0), (0, 1)), ((1, 1), (1, 0))))
        self.assertEqual([least_row(apart, (0, 1), aim) for aim in AIMS], [(0,), (0,), None])

    def test_the_least_of_several_shortest_rows(self):
        # (1, 1), (1, 2), (2, 0) and (2, 1) tell the first stand; the letter 0 leads nowhere new.
        machine = Machine((
            ((0, 0), (2, 0), (3, 0)),
            ((1, 0), (4, 0), (5, 0)),
            ((2, 0), (2, 1), (2, 1)),
            ((3, 2), (3, 2), (3, 2)),
            ((4, 0), (4, 2), (4, 2)),
            ((5, 0), (5, 0), (5, 2)),
        ))
        self.assertEqual(least_row(machine, (0, 1), "first"), (1, 1))

    def test_a_shorter_row_is_least_ahead_of_a_lesser_one(self):
        machine = Machine((((2, 0), (0, 0), (0, 0)), ((3, 0), (1, 0), (0, 1)), ((2, 0),) * 3, ((3, 1),) * 3))
        self.assertEqual(least_row(machine, (0, 1), "first"), (2,))

    def test_a_lot_that_comes_again_with_unlike_writing_is_the_same_lot(self):
        # Both written letters leave the stands 0 and 1 possible, however long the row.
        machine = Machine((((0, 0), (1, 1)), ((1, 0), (0, 1)), ((0, 2), (0, 2)), ((1, 2), (1, 3))))
        self.assertIsNone(least_row(machine, (0, 1, 2, 3), "last"))
        self.assertEqual(paper(machine, (0, 1, 2, 3), "last"), [((0,), (0, 1), (1,)), ((0, 1),), ((0, 1, 2, 3),)])

    def test_all_machines_of_two_stands_against_all_rows(self):
        # A machine of two stands has seven lots, so no least row has more than six letters.
        for table in all_tables(2, TWO_STAND_STEPS):
            machine = Machine(table)
            wanted = {}
            for row in all_rows(2, 6):
                for question in questions(machine):
                    if question not in wanted and row_reaches(table, *question, row):
                        wanted[question] = row
                if len(wanted) == 9:
                    break
            for question in questions(machine):
                self.assertEqual(least_row(machine, *question), wanted.get(question), (table, question))

    def test_machines_of_three_stands_against_all_rows(self):
        source = random.Random(13)
        for lacks, most_written in itertools.product((0, 2, 4), (1, 2)):
            for _ in range(12):
                table = random_table(source, 3, 2, lacks, most_written)
                for question in questions(Machine(table)):
                    found = least_row(Machine(table), *question)
                    rows = (row for row in all_rows(2, 8) if row_reaches(table, *question, row))
                    self.assertEqual(found, next(rows, None), (table, question))

    def test_all_machines_of_two_stands_for_each_stand_by_itself(self):
        for table in all_tables(2, TWO_STAND_STEPS):
            self.check(table)

    def test_machines_of_up_to_six_stands_for_each_stand_by_itself(self):
        source = random.Random(14)
        for lacks, most_written, letters in itertools.product((0, 1, 3), (1, 2, 4), (2, 3)):
            for stands in range(1, 7):
                for _ in range(4 if stands < 6 else 1):
                    self.check(random_table(source, stands, letters, lacks, most_written))

    def test_complete_machines_without_stands_alike(self):
        source = random.Random(15)
        tried = 0
        while tried < 150:
            stands = source.randrange(2, 7)
            machine = Machine(random_table(source, stands, source.choice((2, 3)), 0, 2))
            if alike(machine):
                continue
            tried += 1
            row = least_row(machine, tuple(range(stands)), "last")
            self.assertIsNotNone(row, machine.table)
            self.assertLessEqual(len(row), stands * (stands - 1) // 2, machine.table)

    def test_rows_far_longer_than_there_are_stands(self):
        machine = Machine(LONG_WAY_HOME)
        for aim in ("last", "home"):
            self.assertEqual(len(least_row(machine, tuple(range(6)), aim)), 30)
        self.check(LONG_WAY_HOME)

    def test_more_letters_than_a_row_that_is_passed_can_have(self):
        machine = Machine(LONG_WAY_FIRST)
        for aim in ("first", "last"):
            row = least_row(machine, (0, 1, 2, 3), aim)
            self.assertEqual(len(row), 57)
            self.assertTrue(row_reaches(LONG_WAY_FIRST, (0, 1, 2, 3), aim, row))
            self.assertIsNone(paper(machine, (0, 1, 2, 3), aim))
            with self.assertRaises(BadRow):
                reaches(machine, (0, 1, 2, 3), aim, row)
        self.check(LONG_WAY_FIRST)

    def test_the_answer_is_a_tuple_of_integers(self):
        for question in questions(CHAIN):
            row = least_row(CHAIN, *question)
            self.assertIs(type(row), tuple)
            self.assertTrue(all(type(letter) is int for letter in row))

    def test_repeated_calls(self):
        for question in questions(CHAIN):
            self.assertEqual(least_row(CHAIN, *question), least_row(CHAIN, *question))


class PaperTest(unittest.TestCase):
    def test_example(self):
        self.assertEqual(paper(SAME, (0, 1), "last"), [((0, 1),)])
        self.assertIsNone(paper(SAME, (1,), "home"))

    def test_papers_for_each_aim(self):
        turned = [((0, 1),), ((0, 2),), ((1, 2),)]
        for aim in AIMS:
            self.assertEqual(paper(TURN, (0, 2), aim), turned)
            self.assertEqual(paper(TURN, (0, 1, 2), aim), [((0, 1, 2),)])
            self.assertIsNone(paper(TURN, (2,), aim))

    def test_lots_of_several_blocks(self):
        # Two pairs that are told from each other, but not within.
        machine = Machine((((1, 0), (0, 0)), ((0, 0), (1, 0)), ((3, 1), (2, 1)), ((2, 1), (3, 1))))
        self.assertEqual(paper(machine, (0, 1, 2, 3), "first"), [((0, 1), (2, 3)), ((0, 1, 2, 3),)])
        self.assertEqual(paper(machine, (0, 1, 2, 3), "last"), [((0, 1), (2, 3)), ((0, 1, 2, 3),)])
        self.assertEqual(paper(machine, (0, 1, 2, 3), "home"), [((0, 1, 2, 3),)])
        self.assertEqual(paper(machine, (0, 1, 2), "last"), [((0, 1), (2,)), ((0, 1), (3,)), ((0, 1, 2),)])

    def test_a_letter_that_leads_nowhere(self):
        lacking = Machine((((1, 0), (0, 0)), ((1, 0), None)))
        self.assertEqual(paper(lacking, (0, 1), "first"), [((0, 1),)])
        self.assertIsNone(paper(lacking, (0, 1), "last"))
        nothing = Machine(((None, None), (None, None)))
        for aim in AIMS:
            self.assertEqual(paper(nothing, (0, 1), aim), [((0, 1),)])
        # The letter 0 brings two of the three stands together.
        machine = Machine((((1, 0), (0, 0)), ((1, 0), (1, 0)), ((2, 0), (2, 0))))
        self.assertEqual(paper(machine, (0, 1, 2), "first"), [((0, 1, 2),)])
        self.assertEqual(paper(machine, (0, 1, 2), "last"), [((0, 1, 2),), ((1, 2),)])
        self.assertEqual(paper(machine, (0, 1, 2), "home"), [((0, 1, 2),), ((1, 2),)])

    def test_stands_of_unlike_blocks_may_meet(self):
        # 0 and 1 write unlike and meet, 2 and 3 stay together: only these keep the aim away.
        machine = Machine((((0, 0), None), ((0, 1), None), ((2, 2), None), ((3, 2), None)))
        expected = [((0,), (2, 3)), ((0, 1, 2, 3),)]
        self.assertEqual(paper(machine, (0, 1, 2, 3), "first"), expected)
        self.assertEqual(paper(machine, (0, 1, 2, 3), "last"), expected)
        self.assertEqual(paper(machine, (0, 1, 2, 3), "home"), [((0, 1, 2, 3),), ((0, 2, 3),)])

    def test_against_all_rows(self):
        # Seven lots of two stands: rows of six letters lead to all that can be led to.
        for table in all_tables(2, TWO_STAND_STEPS):
            machine = Machine(table)
            ends = [[read_row(table, stand, row) for stand in (0, 1)] for row in all_rows(2, 6)]
            for aim in AIMS:
                lots = {lot_behind((0, 1), aim, pair) for pair in ends if None not in pair} - {None}
                found = paper(machine, (0, 1), aim)
                if least_row(machine, (0, 1), aim) is None:
                    self.assertEqual(found, sorted(lots), (table, aim))
                else:
                    self.assertIsNone(found)

    def test_kinds_of_the_answer(self):
        lots = paper(TURN, (0, 1), "last")
        self.assertIs(type(lots), list)
        for lot in lots:
            self.assertIs(type(lot), tuple)
            for block in lot:
                self.assertIs(type(block), tuple)

    def test_a_new_list_at_each_call(self):
        first = paper(TURN, (0, 1), "first")
        second = paper(TURN, (0, 1), "first")
        self.assertIsNot(first, second)
        first.clear()
        self.assertEqual(second, [((0, 1),), ((0, 2),), ((1, 2),)])
        self.assertEqual(paper(TURN, (0, 1), "first"), second)


class ShowsTest(unittest.TestCase):
    TURNED = [((0, 1),), ((0, 2),), ((1, 2),)]

    def check(self, machine, stands, aim, value, answer):
        before = copy.deepcopy(value)
        self.assertIs(shows(machine, stands, aim, value), answer, (machine.table, stands, aim, value))
        self.assertEqual(value, before)

    def test_example(self):
        self.check(SAME, (0, 1), "last", [((0, 1),)], True)

    def test_a_paper_as_it_is_and_as_a_tuple_and_in_another_order(self):
        for aim in AIMS:
            for lots in itertools.permutations(self.TURNED):
                self.check(TURN, (0, 1), aim, list(lots), True)
                self.check(TURN, (0, 1), aim, lots, True)

    def test_a_lot_that_comes_twice(self):
        self.check(TURN, (0, 1), "home", self.TURNED + self.TURNED, True)

    def test_further_lots_that_belong_there(self):
        further = [
            ((0, 1, 2),),
            ((0,), (0, 1, 2)),
            ((0,), (0, 1, 2), (1, 2)),
        ]
        for aim in AIMS:
            self.check(TURN, (0, 1), aim, self.TURNED + further[:1], True)
            self.check(TURN, (0, 1, 2), aim, self.TURNED + further[:1], True)
            # From these the letter 1 leads to lots that are left out.
            self.check(TURN, (0, 1), aim, self.TURNED + further[1:2], False)
            self.check(TURN, (0, 1), aim, self.TURNED + further[2:], False)
            # All three turns of it belong there.
            turns = [((0,), (0, 1, 2)), ((0, 1, 2), (1,)), ((0, 1, 2), (2,))]
            self.check(TURN, (0, 1), aim, self.TURNED + turns, True)
            self.check(TURN, (0, 1), aim, turns + self.TURNED, True)
            self.check(TURN, (0, 1), aim, turns, False)

    def test_papers_of_several_stands_together(self):
        source = random.Random(21)
        together = 0
        for _ in range(60):
            machine = Machine(random_table(source, 4, 2, 1, 2))
            for aim in AIMS:
                papers = {stands: paper(machine, stands, aim) for stands in subsets(4)}
                lots = sum([found for found in papers.values() if found is not None], [])
                source.shuffle(lots)
                for stands, found in papers.items():
                    # Where a row reaches the aim, the lot to begin with is in none of the papers.
                    self.check(machine, stands, aim, lots, found is not None)
                    together += found is not None
        self.assertGreater(together, 300)

    def test_a_lot_left_out(self):
        for aim, left_out in itertools.product(AIMS, range(3)):
            self.check(TURN, (0, 1), aim, self.TURNED[:left_out] + self.TURNED[left_out + 1:], False)

    def test_any_lot_left_out_of_any_paper(self):
        # Each lot of a paper is the first one, or some letter leads to it from another.
        source = random.Random(22)
        for stands, letters, lacks in itertools.product((2, 3, 4, 5), (2, 3), (0, 2)):
            for _ in range(8):
                machine = Machine(random_table(source, stands, letters, lacks, 2))
                for question in questions(machine):
                    lots = paper(machine, *question)
                    for lot in lots or ():
                        self.check(machine, *question, [other for other in lots if other != lot], False)

    def test_without_the_first_lot(self):
        self.check(TURN, (0, 1, 2), "last", self.TURNED, False)
        self.check(TURN, (0, 1), "last", [((0, 1, 2),)], False)
        for stands, aim in questions(TURN):
            self.check(TURN, stands, aim, [], False)
            self.check(TURN, stands, aim, (), False)

    def test_a_lot_that_is_done(self):
        for aim in AIMS:
            for lot in (((0,),), ((2,),), ((0,), (1,)), ((0,), (1,), (2,))):
                self.check(TURN, (0, 1), aim, self.TURNED + [lot], False)
                self.check(TURN, (0, 1), aim, [lot] + self.TURNED, False)
            done = [((0,),), ((1,),), ((2,),)]
            self.check(TURN, (0, 1), aim, self.TURNED + done, False)
            self.check(TURN, (0,), aim, done, False)

    def test_no_value_shows_it_where_a_row_reaches_the_aim(self):
        lots = [tuple(lot) for many in range(1, 4) for lot in itertools.combinations(list(subsets(2)), many)]
        values = [value for many in range(1, 5) for value in itertools.combinations(lots, many)]
        for table in list(all_tables(2, TWO_STAND_STEPS))[::25]:
            machine = Machine(table)
            for aim in AIMS:
                found = [value for value in values if shows(machine, (0, 1), aim, value)]
                self.assertEqual(len(found) > 0, least_row(machine, (0, 1), aim) is None, (table, aim))

    def test_where_a_letter_leads_nowhere(self):
        nothing = Machine(((None, None), (None, None)))
        half = Machine((((1, 0), (0, 0)), ((1, 0), None)))
        for aim in AIMS:
            self.check(nothing, (0, 1), aim, [((0, 1),)], True)
            self.check(nothing, (0, 1), aim, [((0, 1),), ((0,), (0, 1))], True)
            self.check(nothing, (0, 1), aim, [((0, 1),), ((0,), (1,))], False)
            self.check(half, (0, 1), aim, [((0, 1),)], aim == "first")
            self.check(half, (0, 1), aim, [((0, 1),), ((1,),)], False)

    def test_stands_that_meet_lead_nowhere_for_the_aim_first_only(self):
        machine = Machine((((1, 0), (0, 0)), ((1, 0), (1, 0)), ((2, 0), (2, 0))))
        self.check(machine, (0, 1, 2), "first", [((0, 1, 2),)], True)
        self.check(machine, (0, 1, 2), "last", [((0, 1, 2),)], False)
        self.check(machine, (0, 1, 2), "home", [((0, 1, 2),)], False)
        self.check(machine, (0, 1, 2), "last", [((0, 1, 2),), ((1, 2),)], True)
        # Stands of two blocks may meet: that leads somewhere.
        self.check(machine, (0, 2), "first", [((0, 2),), ((1, 2),)], True)
        self.check(machine, (0, 2), "first", [((0, 2),), ((1, 2),), ((0, 2), (1, 2))], True)
        self.check(machine, (0, 2), "first", [((0, 2),), ((1, 2),), ((0,), (1, 2))], False)

    def test_what_is_written_does_not_split_the_blocks_on_the_way_home(self):
        machine = Machine((((0, 0), (1, 0)), ((1, 1), (2, 1)), ((2, 2), (0, 2))))
        self.check(machine, (0, 1), "home", self.TURNED, True)
        self.check(machine, (0, 1), "last", self.TURNED, False)
        self.check(machine, (0, 1), "home", self.TURNED + [((0, 1, 2),)], True)
        # Each block of a lot leads to one of its own.
        pairs = [((0, 1), (0, 2)), ((0, 1), (1, 2)), ((0, 2), (1, 2))]
        self.check(machine, (0, 1), "home", self.TURNED + pairs, True)
        self.check(machine, (0, 1), "home", self.TURNED + pairs[:2], False)

    def test_things_in_it_that_are_no_lots(self):
        things = [
            (), ((),), ((), (0, 1)), [], [(0, 1)], ([0, 1],), ((0, 1), [0, 2]), [[0, 1]], {}, {(0, 1): 1},
            "", "01", ("01",), (("0", "1"),), 0, True, None, (0,), (0, 1), (None,), ((0, 1), None), ((None,),),
            ((1, 0),), ((0, 0),), ((0, 1, 1),), ((0, 2, 1),), ((1, 2), (0, 1)), ((0, 1), (0, 1)),
            ((0, 2), (0, 1)), ((0, 1), (0,)), ((0, 1, 2), (0, 1)), ((0, True),), ((False, 1),), ((True, 2),),
            ((False, True),), ((0, 3),), ((0, 1), (3,)), ((-1, 0),), ((-1,), (0, 1)), ((0, 10 ** 30),),
            (((0, 1),),), ((0, (1,)),), ((0, [1]),), ((0, {}),), ((0, "1"),), ((0, None),),
        ]
        for aim, thing in itertools.product(AIMS, things):
            self.check(TURN, (0, 1), aim, self.TURNED + [thing], False)
            self.check(TURN, (0, 1), aim, [thing] + self.TURNED, False)
            self.check(TURN, (0, 1), aim, tuple(self.TURNED) + (thing,), False)
            self.check(TURN, (0, 1), aim, [thing], False)

    def test_true_is_no_stand_where_1_is(self):
        for aim in AIMS:
            self.check(TURN, (0, 1), aim, [((0, True),)] + self.TURNED[1:], False)
            self.check(SAME, (0, 1), aim, [((0, 1),)], True)
            self.check(SAME, (0, 1), aim, [((0, True),)], False)
            self.check(SAME, (0, 1), aim, [((False, 1),)], False)

    def test_what_lots_there_are_depends_on_the_machine(self):
        four = Machine(TURN.table + (((3, 0), (3, 0)),))
        lots = self.TURNED + [((0, 1, 2, 3),)]
        for aim in AIMS:
            self.check(four, (0, 1), aim, lots, True)
            self.check(TURN, (0, 1), aim, lots, False)

    def test_values_of_every_other_kind(self):
        values = [
            None, True, False, 0, 1, -1, "", "paper", "((0, 1),)", {}, {((0, 1),): True}, {0: ((0, 1),)},
            {lot: True for lot in self.TURNED}, ((0, 1),), (0, 1), (((0, 1),),) * 2 + ("",), [None], [[]], [0],
        ]
        for aim, value in itertools.product(AIMS, values):
            self.check(TURN, (0, 1), aim, value, False)
            self.check(TURN, (0,), aim, value, False)

    def test_repeated_calls(self):
        value = list(self.TURNED)
        for _ in range(2):
            self.assertIs(shows(TURN, (0, 1), "last", value), True)
            self.assertIs(shows(TURN, (0, 1), "last", value[1:]), False)
        self.assertEqual(value, self.TURNED)


if __name__ == "__main__":
    unittest.main()
