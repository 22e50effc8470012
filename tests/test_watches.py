import itertools
import random
import unittest

from direct import BAD_STANDS, Refusing, random_table, subsets
from whichstand.errors import BadLetter, BadStands, Full, NoStand
from whichstand.machines import Machine
from whichstand.watches import Watch

# Three stands that write alike until stand 2 is reached, which lacks the letter 1.
CHAIN = Machine((((1, 0), (0, 0)), ((2, 0), (0, 0)), ((2, 1), None)))
# All stay where they are and write 0 at the letter 0; 1 turns them; 2 lacks for all but stand 0.
TURN = Machine((
    ((0, 0), (1, 0), (0, 2)),
    ((1, 0), (2, 0), None),
    ((2, 0), (0, 0), None),
))

ODD_VALUES = [
    -1, -2, 4, 5, 10 ** 30, True, False, None, "", "0", "1", "a", [], [0], (), (0,), (0, 1), {}, {0: 1},
]


def ways(table, stands, seen):
    """For each first stand that fits all that was seen, where it has led."""
    found = {}
    for first in stands:
        at = first
        for letter, wrote in seen:
            step = table[at][letter]
            if step is None or step[1] != wrote:
                break
            at = step[0]
        else:
            found[first] = at
    return found


class WatchTest(Refusing, unittest.TestCase):
    def check(self, watch, stands, seen):
        """Compare a watch with what follows from all letters seen since the begin."""
        table = watch.machine.table
        found = ways(table, stands, seen)
        lasts = [at for at in range(len(table)) if at in found.values()]
        letters = [
            letter for letter in range(len(table[0])) if not any(table[at][letter] is None for at in lasts)
        ]
        self.assertEqual(watch.lasts(), lasts, (table, stands, seen))
        self.assertEqual(watch.firsts(), sorted(found), (table, stands, seen))
        self.assertEqual(watch.can_read(), letters, (table, stands, seen))
        self.assertEqual(len(watch), len(seen), (table, stands, seen))

    def refuse_see(self, error, watch, letter, wrote):
        before = (watch.lasts(), watch.firsts(), watch.can_read(), len(watch))
        with self.assertRaises(error, msg=repr((letter, wrote))) as caught:
            watch.see(letter, wrote)
        self.assertIs(type(caught.exception), error, (letter, wrote))
        self.assertEqual((watch.lasts(), watch.firsts(), watch.can_read(), len(watch)), before)

    def test_example(self):
        watch = Watch(CHAIN, (0, 1, 2))
        found = [
            watch.can_read(), watch.see(0, 0), watch.firsts(), watch.can_read(), watch.see(0, 1), watch.firsts(),
            len(watch), watch.undo(), watch.lasts(),
        ]
        self.assertEqual(found, [[0], [1, 2], [0, 1], [0], [2], [1], 2, True, [1, 2]])
        self.refuse_see(NoStand, watch, 0, 3)

    def test_nothing_is_seen_at_first(self):
        for machine in (CHAIN, TURN, Machine(((None, None),) * 6)):
            for stands in subsets(len(machine)):
                watch = Watch(machine, stands)
                self.check(watch, stands, [])
                self.assertEqual(watch.lasts(), list(stands))
                self.assertEqual(watch.firsts(), list(stands))

    def test_the_machine_is_a_property(self):
        watch = Watch(CHAIN, (0,))
        self.assertIs(type(watch.machine), Machine)
        self.assertEqual(watch.machine, CHAIN)
        with self.assertRaises(AttributeError):
            watch.machine = TURN
        self.assertEqual(watch.copy().machine, CHAIN)
        for value in (CHAIN, None, 0, True, "", (), [], [0], {}):
            self.assertFalse(watch == value)
            self.assertTrue(watch != value)

    def test_the_answer_of_see_is_the_list_of_the_lasts(self):
        watch = Watch(TURN, (0, 1))
        self.assertEqual(watch.see(1, 0), [1, 2])
        self.assertEqual(watch.see(1, 0), [0, 2])
        self.assertEqual(watch.see(0, 0), [0, 2])
        self.assertEqual(watch.see(2, 2), [0])
        self.assertEqual([watch.firsts(), watch.can_read(), len(watch)], [[1], [0, 1, 2], 4])

    def test_stands_that_come_together(self):
        machine = Machine((((2, 1), (0, 0)), ((2, 1), (1, 0)), ((2, 0), (2, 0))))
        watch = Watch(machine, (0, 1, 2))
        self.assertEqual(watch.see(0, 1), [2])
        self.assertEqual(watch.firsts(), [0, 1])
        self.check(watch, (0, 1, 2), [(0, 1)])

    def test_the_lasts_ascend_where_the_firsts_lead_crosswise(self):
        machine = Machine((((5, 0), (0, 0)), ((4, 0), (0, 0)), ((3, 0), (0, 0)), ((0, 1), None), ((0, 1), None),
                           ((0, 1), None)))
        watch = Watch(machine, (0, 1, 2))
        self.assertEqual(watch.see(0, 0), [3, 4, 5])
        self.assertEqual(watch.firsts(), [0, 1, 2])

    def test_letters_that_no_possible_stand_writes(self):
        for stands, letter, wrote in itertools.product(subsets(3), range(2), range(4)):
            watch = Watch(CHAIN, stands)
            if ways(CHAIN.table, stands, [(letter, wrote)]):
                watch.see(letter, wrote)
                self.check(watch, stands, [(letter, wrote)])
            else:
                self.refuse_see(NoStand, watch, letter, wrote)
        # Stand 2 writes 1 at the letter 0, but it is not possible.
        self.refuse_see(NoStand, Watch(CHAIN, (0, 1)), 0, 1)

    def test_a_step_that_lacks_at_some_and_at_all_possible_stands(self):
        watch = Watch(CHAIN, (0, 1, 2))
        self.assertEqual(watch.can_read(), [0])
        # The machine has read it, so stand 2 is out.
        self.assertEqual(watch.see(1, 0), [0])
        self.assertEqual([watch.firsts(), watch.can_read()], [[0, 1], [0, 1]])
        watch = Watch(CHAIN, (2,))
        for wrote in range(4):
            self.refuse_see(NoStand, watch, 1, wrote)
        watch = Watch(TURN, (1, 2))
        for wrote in range(4):
            self.refuse_see(NoStand, watch, 2, wrote)
        nothing = Watch(Machine(((None, None), (None, None))), (0, 1))
        self.assertEqual(nothing.can_read(), [])
        for letter, wrote in itertools.product(range(2), range(4)):
            self.refuse_see(NoStand, nothing, letter, wrote)

    def test_values_that_are_no_letter(self):
        for machine in (CHAIN, TURN):
            watch = Watch(machine, (0, 1, 2))
            watch.see(0, 0)
            for letter in ODD_VALUES + [machine.letters]:
                for wrote in (0, 1, 3):
                    self.refuse_see(BadLetter, watch, letter, wrote)
            for wrote, letter in itertools.product(ODD_VALUES, range(machine.letters)):
                self.refuse_see(BadLetter, watch, letter, wrote)
            for letter, wrote in itertools.product(ODD_VALUES, ODD_VALUES):
                self.refuse_see(BadLetter, watch, letter, wrote)
            self.check(watch, (0, 1, 2), [(0, 0)])

    def test_letters_of_other_machines(self):
        self.refuse_see(BadLetter, Watch(CHAIN, (0,)), 2, 2)
        self.assertEqual(Watch(TURN, (0,)).see(2, 2), [0])
        self.refuse_see(BadLetter, Watch(TURN, (0,)), 3, 2)

    def test_forty_letters_then_full(self):
        watch = Watch(TURN, (0, 1, 2))
        seen = []
        for count in range(40):
            self.assertEqual(len(watch), count)
            watch.see(count % 2, 0)
            seen.append((count % 2, 0))
        self.check(watch, (0, 1, 2), seen)
        for _ in range(2):
            self.refuse_see(Full, watch, 0, 0)
            self.refuse_see(Full, watch, 2, 2)
        self.assertEqual(len(watch.copy()), 40)
        self.refuse_see(Full, watch.copy(), 0, 0)
        self.assertTrue(watch.undo())
        self.assertEqual(watch.see(2, 2), [0])
        self.check(watch, (0, 1, 2), seen[:-1] + [(2, 2)])
        self.refuse_see(Full, watch, 0, 0)

    def test_which_error_comes_first(self):
        watch = Watch(CHAIN, (2,))
        # BadLetter ahead of NoStand: nothing that is no letter is written by any stand.
        self.refuse_see(BadLetter, watch, 1, 4)
        self.refuse_see(BadLetter, watch, 2, 0)
        for _ in range(40):
            watch.see(0, 1)
        # Full ahead of NoStand, BadLetter ahead of both.
        for letter, wrote in ((0, 0), (0, 3), (1, 0), (1, 1)):
            self.refuse_see(Full, watch, letter, wrote)
        for value in ODD_VALUES:
            self.refuse_see(BadLetter, watch, value, 0)
            self.refuse_see(BadLetter, watch, 0, value)
            self.refuse_see(BadLetter, watch, value, value)
        self.assertEqual(len(watch), 40)

    def test_undo_where_nothing_was_seen(self):
        watch = Watch(CHAIN, (0, 2))
        for _ in range(3):
            self.assertIs(watch.undo(), False)
            self.check(watch, (0, 2), [])
        watch.see(0, 0)
        self.assertIs(watch.undo(), True)
        self.assertIs(watch.undo(), False)
        self.check(watch, (0, 2), [])

    def test_undo_down_to_the_begin(self):
        watch = Watch(TURN, (0, 1))
        seen = [(0, 0), (1, 0), (1, 0), (2, 2), (0, 0), (1, 0)]
        for letter, wrote in seen:
            watch.see(letter, wrote)
        while seen:
            self.check(watch, (0, 1), seen)
            self.assertIs(watch.undo(), True)
            seen.pop()
        self.check(watch, (0, 1), [])
        self.assertIs(watch.undo(), False)
        self.assertEqual(watch.see(2, 2), [0])

    def test_undo_after_refused_deeds(self):
        watch = Watch(CHAIN, (0, 1, 2))
        watch.see(0, 0)
        self.refuse_see(NoStand, watch, 1, 3)
        self.refuse_see(BadLetter, watch, 7, 0)
        self.assertIs(watch.undo(), True)
        self.check(watch, (0, 1, 2), [])
        self.assertIs(watch.undo(), False)

    def test_a_copy_goes_on_by_itself(self):
        watch = Watch(CHAIN, (0, 1, 2))
        watch.see(0, 0)
        twin = watch.copy()
        self.assertIs(type(twin), Watch)
        self.assertIsNot(twin, watch)
        self.check(twin, (0, 1, 2), [(0, 0)])
        twin.see(0, 1)
        self.check(watch, (0, 1, 2), [(0, 0)])
        self.check(twin, (0, 1, 2), [(0, 0), (0, 1)])
        watch.undo()
        self.check(watch, (0, 1, 2), [])
        self.check(twin, (0, 1, 2), [(0, 0), (0, 1)])
        third = twin.copy()
        twin.undo()
        twin.undo()
        self.assertIs(twin.undo(), False)
        self.check(third, (0, 1, 2), [(0, 0), (0, 1)])
        third.undo()
        self.check(third, (0, 1, 2), [(0, 0)])
        twin.see(1, 0)
        self.check(twin, (0, 1, 2), [(1, 0)])
        self.check(third, (0, 1, 2), [(0, 0)])
        self.check(watch, (0, 1, 2), [])

    def test_the_lists_are_new(self):
        watch = Watch(TURN, (0, 1))
        watch.see(1, 0)
        copied = watch.copy()
        for call in (watch.lasts, watch.firsts, watch.can_read):
            first = call()
            self.assertIs(type(first), list)
            self.assertIsNot(first, call())
            before = list(first)
            first.append(9)
            self.assertEqual(call(), before)
            first.clear()
            self.assertEqual(call(), before)
        found = watch.see(1, 0)
        self.assertIs(type(found), list)
        found.clear()
        self.check(watch, (0, 1), [(1, 0), (1, 0)])
        watch.undo()
        self.check(watch, (0, 1), [(1, 0)])
        copied.lasts().clear()
        self.check(copied, (0, 1), [(1, 0)])

    def test_bad_stands(self):
        for stands in BAD_STANDS:
            self.refuse(BadStands, Watch, CHAIN, stands)
            self.refuse(BadStands, Watch, TURN, stands)
        with self.assertRaises(BadStands):
            Watch(Machine(((None, None),)), (0, 1))

    def test_kinds_of_the_answers(self):
        watch = Watch(CHAIN, (0, 1, 2))
        for values in (watch.see(0, 0), watch.lasts(), watch.firsts(), watch.can_read()):
            self.assertIs(type(values), list)
            self.assertEqual({type(value) for value in values}, {int})

    def test_two_watches_over_one_machine(self):
        one = Watch(TURN, (0, 1, 2))
        other = Watch(TURN, (0, 1, 2))
        one.see(2, 2)
        self.check(one, (0, 1, 2), [(2, 2)])
        self.check(other, (0, 1, 2), [])

    def test_many_deeds_on_many_machines(self):
        source = random.Random(41)
        refused = full = 0
        for stands, letters, lacks in itertools.product(range(1, 7), (2, 3), (0, 1, 3)):
            for _ in range(6):
                machine = Machine(random_table(source, stands, letters, lacks, source.choice((1, 2, 4))))
                first = source.choice(list(subsets(stands)))
                watches = [(Watch(machine, first), [])]
                for _ in range(120):
                    watch, seen = source.choice(watches)
                    deed = source.randrange(12)
                    if deed == 0:
                        self.assertIs(watch.undo(), len(seen) > 0)
                        del seen[-1:]
                    elif deed == 1 and len(watches) < 4:
                        watches.append((watch.copy(), list(seen)))
                    else:
                        letter = source.randrange(letters)
                        at = source.choice(watch.lasts())
                        step = machine.table[at][letter]
                        wrote = source.randrange(4) if step is None or deed == 2 else step[1]
                        lasts = sorted(set(ways(machine.table, first, seen + [(letter, wrote)]).values()))
                        if len(seen) == 40:
                            full += 1
                            self.refuse_see(Full, watch, letter, wrote)
                        elif not lasts:
                            refused += 1
                            self.refuse_see(NoStand, watch, letter, wrote)
                        else:
                            self.assertEqual(watch.see(letter, wrote), lasts)
                            seen.append((letter, wrote))
                    for watch, seen in watches:
                        self.check(watch, first, seen)
        self.assertGreater(refused, 1000)
        self.assertGreater(full, 100)


if __name__ == "__main__":
    unittest.main()
