import itertools
import random
import unittest

from direct import (
    AIMS, BAD_AIMS, BAD_STANDS, LONG_WAY_FIRST, LONG_WAY_HOME, Refusing, all_rows, all_tables, histories, random_table,
    row_reaches, state_after, state_reaches, subsets,
)
from whichstand.costs import cheapest
from whichstand.errors import BadAim, BadCosts, BadStands
from whichstand.machines import Machine
from whichstand.rows import least_row, reaches

# Three stands that write alike until stand 2 is reached.
CHAIN = Machine((((1, 0), (0, 0)), ((2, 0), (0, 0)), ((2, 1), (0, 0))))
SAME = Machine((((0, 0), (1, 1)), ((1, 0), (0, 1))))

BAD_COSTS = [
    # For a machine with two letters.
    (), (1,), (1, 1, 1), (1, 2, 3, 4), [1, 1], [], {}, {0: 1, 1: 1}, "", "11", "1", None, True, False, 0, 1, 2, -1,
    (0, 1), (1, 0), (0, 0), (100, 1), (1, 100), (-1, 1), (1, -99), (10 ** 30, 1), (True, 1), (1, True), (False, 1),
    (True, True), (None, 1), (1, None), ("1", 1), (1, "1"), ("1", "1"), ((1,), 1), (1, (1,)), ([1], 1), (1, []),
    (1, {}), ((1, 1),),
]


def cost_of(row, costs):
    return sum(costs[letter] for letter in row)


def first_of(rows, costs):
    """Of some rows the cheapest, of these that with the fewest letters, of these the least."""
    return min([(cost_of(row, costs), len(row), row) for row in rows], default=None)


def expected_cheapest(table, stands, aim, costs):
    """The same of all states of knowledge: the best row to each is bettered until none can be."""
    best = {state: (cost_of(row, costs), len(row), row) for state, row in histories(table, stands).items()}
    waiting = list(best)
    while waiting:
        state = waiting.pop()
        cost, length, row = best[state]
        for letter in range(len(table[0])):
            after = state_after(table, state, letter)
            found = (cost + costs[letter], length + 1, row + (letter,))
            if after is not None and found < best[after]:
                best[after] = found
                waiting.append(after)
    found = min([best[state] for state in best if state_reaches(state, aim)], default=None)
    return None if found is None else (found[0], found[2])


class CheapestTest(unittest.TestCase):
    def check(self, table, stands, aim, costs):
        wanted = expected_cheapest(table, stands, aim, costs)
        found = cheapest(Machine(table), stands, aim, costs)
        self.assertEqual(found, wanted, (table, stands, aim, costs))
        return found

    def test_example(self):
        self.assertEqual(cheapest(CHAIN, (0, 1, 2), "last", (1, 5)), (2, (0, 0)))
        self.assertEqual(cheapest(CHAIN, (0, 1, 2), "last", (9, 5)), (5, (1,)))
        self.assertEqual(cheapest(CHAIN, (0,), "home", (1, 1)), (0, ()))

    def test_one_possible_stand(self):
        nothing = Machine(((None, None), (None, None)))
        for machine, aim, costs in itertools.product((CHAIN, SAME, nothing), AIMS, ((1, 1), (99, 1), (99, 99))):
            for stand in range(len(machine)):
                self.assertEqual(cheapest(machine, (stand,), aim, costs), (0, ()))

    def test_more_letters_may_be_cheaper(self):
        # The letter 1 leads home at once, 0 does at the second time.
        machine = Machine((((1, 0), (2, 0)), ((2, 0), (2, 0)), ((2, 0), (2, 0))))
        for aim in ("last", "home"):
            self.assertEqual(cheapest(machine, (0, 1, 2), aim, (1, 3)), (2, (0, 0)))
            self.assertEqual(cheapest(machine, (0, 1, 2), aim, (2, 3)), (3, (1,)))
            self.assertEqual(cheapest(machine, (0, 1, 2), aim, (49, 99)), (98, (0, 0)))
            self.assertEqual(cheapest(machine, (0, 1, 2), aim, (50, 99)), (99, (1,)))
            self.assertEqual(cheapest(machine, (0, 1, 2), aim, (99, 99)), (99, (1,)))

    def test_of_equal_costs_fewer_letters_go_ahead(self):
        machine = Machine((((1, 0), (2, 0)), ((2, 0), (2, 0)), ((2, 0), (2, 0))))
        for aim in ("last", "home"):
            # (0, 0) is less than (1,), and costs as much.
            self.assertEqual(cheapest(machine, (0, 1, 2), aim, (1, 2)), (2, (1,)))
            self.assertEqual(cheapest(machine, (0, 1, 2), aim, (49, 98)), (98, (1,)))
        # On the way, too: the letter 2 is worth as much as 0 twice, then 1 is read.
        way = Machine((
            ((1, 0), (0, 0), (2, 0)), ((2, 0), (1, 0), (2, 0)), ((2, 0), (3, 0), (2, 0)), ((3, 0), (3, 0), (3, 0)),
        ))
        self.assertEqual(cheapest(way, (0, 3), "home", (1, 5, 2)), (7, (2, 1)))
        self.assertEqual(cheapest(way, (0, 3), "home", (1, 5, 3)), (7, (0, 0, 1)))

    def test_of_equal_costs_and_letters_the_least_row_goes_ahead(self):
        one = Machine((((1, 0), (1, 0), (0, 0)), ((1, 0), (1, 0), (1, 0))))
        self.assertEqual(cheapest(one, (0, 1), "home", (7, 7, 1)), (7, (0,)))
        self.assertEqual(cheapest(one, (0, 1), "home", (7, 6, 1)), (6, (1,)))
        # (0, 1), (0, 2), (1, 1), (1, 2), (2, 1) and (2, 2) lead home.
        two = Machine((((1, 0), (1, 0), (1, 0)), ((1, 0), (2, 0), (2, 0)), ((2, 0), (2, 0), (2, 0))))
        self.assertEqual(cheapest(two, (0, 1, 2), "home", (5, 5, 5)), (10, (0, 1)))
        self.assertEqual(cheapest(two, (0, 1, 2), "home", (4, 5, 5)), (9, (0, 1)))
        self.assertEqual(cheapest(two, (0, 1, 2), "home", (4, 6, 5)), (9, (0, 2)))

    def test_none_where_no_row_reaches_the_aim(self):
        nothing = Machine(((None, None), ((1, 1), None)))
        for machine, aim, costs in itertools.product((SAME, nothing), AIMS, ((1, 1), (1, 99), (99, 1))):
            self.assertIsNone(cheapest(machine, (0, 1), aim, costs))

    def test_none_just_where_there_is_no_least_row(self):
        source = random.Random(101)
        answers = {True: 0, False: 0}
        for _ in range(80):
            stands = source.randrange(2, 6)
            letters = source.choice((2, 3))
            machine = Machine(random_table(source, stands, letters, source.choice((0, 1, 3)), source.choice((1, 2))))
            for some, aim in itertools.product(subsets(stands), AIMS):
                costs = tuple(source.randrange(1, 100) for _ in range(letters))
                found = cheapest(machine, some, aim, costs)
                answers[found is None] += 1
                self.assertEqual(found is None, least_row(machine, some, aim) is None, (machine.table, some, aim))
                if found is not None:
                    self.assertEqual(found[0], cost_of(found[1], costs))
                    self.assertIs(reaches(machine, some, aim, found[1]), True)
        self.assertGreater(min(answers.values()), 300)

    def test_where_all_letters_cost_the_same(self):
        source = random.Random(102)
        for _ in range(40):
            stands = source.randrange(2, 6)
            letters = source.choice((2, 3))
            machine = Machine(random_table(source, stands, letters, source.choice((0, 1, 3)), 2))
            for some, aim in itertools.product(subsets(stands), AIMS):
                row = least_row(machine, some, aim)
                for cost in (1, 10, 99):
                    wanted = None if row is None else (cost * len(row), row)
                    self.assertEqual(cheapest(machine, some, aim, (cost,) * letters), wanted)

    def test_all_machines_of_two_stands_against_all_rows(self):
        # A machine of two stands has seven lots, and the cheapest row comes to none of them twice.
        source = random.Random(103)
        rows = list(all_rows(2, 6))
        for table in all_tables(2, (None, (0, 0), (1, 0), (0, 1), (1, 1))):
            machine = Machine(table)
            for stands, aim in itertools.product(subsets(2), AIMS):
                fit = [row for row in rows if row_reaches(table, stands, aim, row)]
                for costs in ((1, 1), (1, 2), (2, 1), (source.randrange(1, 100), source.randrange(1, 100))):
                    wanted = first_of(fit, costs)
                    wanted = None if wanted is None else (wanted[0], wanted[2])
                    self.assertEqual(cheapest(machine, stands, aim, costs), wanted, (table, stands, aim, costs))

    def test_machines_of_three_stands_against_all_rows(self):
        source = random.Random(104)
        rows = list(all_rows(2, 8))
        for lacks, most_written in itertools.product((0, 2, 4), (1, 2)):
            for _ in range(6):
                table = random_table(source, 3, 2, lacks, most_written)
                for stands, aim in itertools.product(subsets(3), AIMS):
                    fit = [row for row in rows if row_reaches(table, stands, aim, row)]
                    for costs in ((1, 1), (1, 2), (2, 1), (3, 2), (1, 3)):
                        wanted = first_of(fit, costs)
                        wanted = None if wanted is None else (wanted[0], wanted[2])
                        self.assertEqual(cheapest(Machine(table), stands, aim, costs), wanted, (table, stands, aim))

    def test_machines_of_up_to_six_stands_for_each_stand_by_itself(self):
        source = random.Random(105)
        for lacks, most_written, letters in itertools.product((0, 1, 3), (1, 2, 4), (2, 3)):
            for stands in range(1, 7):
                table = random_table(source, stands, letters, lacks, most_written)
                for some in source.sample(list(subsets(stands)), min(4, 2 ** stands - 1)):
                    for aim, most in itertools.product(AIMS, (3, 99)):
                        self.check(table, some, aim, tuple(source.randint(1, most) for _ in range(letters)))

    def test_more_letters_than_a_row_that_is_passed_can_have(self):
        for aim, costs in itertools.product(("first", "last"), ((1, 1, 1), (1, 99, 7))):
            found = self.check(LONG_WAY_FIRST, (0, 1, 2, 3), aim, costs)
            self.assertGreater(len(found[1]), 40)
        for costs in ((1, 1, 1), (50, 1, 99)):
            self.check(LONG_WAY_HOME, tuple(range(6)), "home", costs)

    def test_kinds_of_the_answer(self):
        found = cheapest(CHAIN, (0, 1, 2), "first", (3, 4))
        self.assertEqual((type(found), type(found[0]), type(found[1])), (tuple, int, tuple))
        self.assertEqual({type(letter) for letter in found[1]}, {int})

    def test_repeated_calls(self):
        for stands, aim in itertools.product(subsets(3), AIMS):
            first = cheapest(CHAIN, stands, aim, (2, 3))
            self.assertIsNone(cheapest(SAME, (0, 1), aim, (2, 3)))
            self.assertEqual(cheapest(CHAIN, stands, aim, (2, 3)), first)


class RefusalsTest(Refusing, unittest.TestCase):
    def test_bad_stands(self):
        for stands, aim in itertools.product(BAD_STANDS, AIMS):
            self.refuse(BadStands, cheapest, CHAIN, stands, aim, (1, 1))

    def test_bad_aims(self):
        for stands, aim in itertools.product(subsets(3), BAD_AIMS):
            self.refuse(BadAim, cheapest, CHAIN, stands, aim, (1, 1))

    def test_bad_costs(self):
        for stands, aim, costs in itertools.product([(0,), (0, 2), (0, 1, 2)], AIMS, BAD_COSTS):
            self.refuse(BadCosts, cheapest, CHAIN, stands, aim, costs)

    def test_a_cost_for_each_letter(self):
        wide = Machine((((0, 0), (0, 0), (0, 0)),))
        self.assertEqual(cheapest(wide, (0,), "home", (1, 99, 50)), (0, ()))
        self.refuse(BadCosts, cheapest, wide, (0,), "home", (1, 1))
        self.refuse(BadCosts, cheapest, wide, (0,), "home", (1, 1, 100))
        self.refuse(BadCosts, cheapest, wide, (0,), "home", (1, 1, True))
        self.refuse(BadCosts, cheapest, wide, (0,), "home", (1, 1, 1, 1))
        self.refuse(BadCosts, cheapest, CHAIN, (0,), "home", (1, 1, 1))

    def test_several_at_once(self):
        for stands, aim, costs in itertools.product(BAD_STANDS, ["first", "x", None, True, []], BAD_COSTS):
            self.refuse(BadStands, cheapest, CHAIN, stands, aim, costs)
        for stands, aim in itertools.product(BAD_STANDS, BAD_AIMS):
            self.refuse(BadStands, cheapest, CHAIN, stands, aim, (1, 1))
        for aim, costs in itertools.product(BAD_AIMS, BAD_COSTS):
            self.refuse(BadAim, cheapest, CHAIN, (0, 1), aim, costs)

    def test_bad_costs_where_no_row_reaches_the_aim(self):
        self.refuse(BadCosts, cheapest, SAME, (0, 1), "last", (0, 1))

    def test_calls_after_errors(self):
        before = cheapest(CHAIN, (0, 1, 2), "first", (1, 1))
        self.refuse(BadStands, cheapest, CHAIN, (3,), "first", (1, 1))
        self.refuse(BadAim, cheapest, CHAIN, (0, 1, 2), "second", (1, 1))
        self.refuse(BadCosts, cheapest, CHAIN, (0, 1, 2), "first", (1, 100))
        self.assertEqual(cheapest(CHAIN, (0, 1, 2), "first", (1, 1)), before)


if __name__ == "__main__":
    unittest.main()
