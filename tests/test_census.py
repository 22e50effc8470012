import itertools
import unittest

from direct import all_tables, expected_rows, histories
from whichstand.census import census
from whichstand.errors import BadSize


def count(stands, written):
    """Count the tables one by one, following each stand by itself."""
    first = last = neither = 0
    steps = list(itertools.product(range(stands), range(written)))
    possible = tuple(range(stands))
    for table in all_tables(stands, steps):
        states = histories(table, possible)
        if expected_rows(table, possible, "first", states)[0] is not None:
            first += 1
        elif expected_rows(table, possible, "last", states)[0] is not None:
            last += 1
        else:
            neither += 1
    return first, last, neither


class CensusTest(unittest.TestCase):
    def test_example(self):
        self.assertEqual([census(1, 1), census(1, 2), census(2, 1)], [(1, 0, 0), (4, 0, 0), (0, 12, 4)])

    def test_all_sizes_against_a_count_of_the_tables(self):
        for stands, written in itertools.product((1, 2), (1, 2)):
            self.assertEqual(census(stands, written), count(stands, written), (stands, written))

    def test_two_stands_that_write_two_letters(self):
        # Both letters must write alike, in 8 by 8 of 256 tables, for the first stand to be untold;
        # in 4 by 4 of these neither letter brings the two stands together.
        self.assertEqual(census(2, 2), (192, 48, 16))

    def test_all_tables_are_counted(self):
        for stands, written in itertools.product((1, 2), (1, 2)):
            self.assertEqual(sum(census(stands, written)), (stands * written) ** (2 * stands))

    def test_kinds_of_the_answer(self):
        found = census(2, 1)
        self.assertIs(type(found), tuple)
        self.assertEqual([type(many) for many in found], [int, int, int])

    def test_repeated_calls(self):
        self.assertEqual(census(2, 1), census(2, 1))

    def test_bad_sizes(self):
        bad = [
            0, 3, 4, -1, -2, 10 ** 30, True, False, None, "", "1", "2", [], [1], (), (1,), (2, 1), {}, {1: 2},
        ]
        for value in bad:
            for good in (1, 2):
                for sizes in ((value, good), (good, value)):
                    with self.assertRaises(BadSize, msg=repr(sizes)) as caught:
                        census(*sizes)
                    self.assertIs(type(caught.exception), BadSize)
            for other in bad:
                with self.assertRaises(BadSize, msg=repr((value, other))):
                    census(value, other)

    def test_calls_after_errors(self):
        with self.assertRaises(BadSize):
            census(3, 1)
        self.assertEqual(census(1, 1), (1, 0, 0))


if __name__ == "__main__":
    unittest.main()
