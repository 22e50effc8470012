"""What the document says, computed in another way than the package does: for each first stand by itself."""

import copy
import itertools

AIMS = ("first", "last", "home")

BAD_STANDS = [
    # For a machine with three stands.
    (), [], [0], [0, 1], {}, {0: 1}, "", "0", "01", None, True, False, 0, 1, -1,
    (1, 0), (0, 2, 1), (2, 1, 0), (0, 0), (0, 1, 1), (0, 1, 0), (-1,), (-1, 0), (0, -1), (3,), (0, 3),
    (0, 1, 2, 3), (10 ** 30,), (-(10 ** 30), 0), (True,), (False,), (0, True), (False, 1), (True, 2),
    ("0",), (0, "1"), ("0", 1), ("0", "1"), (None,), (0, None), ((0,),), (0, (1,)), ([0],), (0, [1]), ({},),
]
BAD_STAND = [
    # For a machine with three stands.
    -1, -2, 3, 4, 6, 10 ** 30, True, False, None, "", "0", "1", "stand", [], [0], [1], (), (0,), (1,), (0, 1), {},
    {0: 1}, {1: 0},
]
BAD_AIMS = [
    0, 1, 2, -1, True, False, None, "", "f", "First", "LAST", "home ", " home", "firs", "lasts", "first,last",
    ("first",), ("first", "last"), (), ["first"], ["home"], [], {}, {"first": 1}, {"last": "last"},
]
BAD_ROWS = [
    # For a machine with two letters: a value and its index.
    (None, None), (0, None), (True, None), ("", None), ("01", None), ([], None), ([0], None), ({}, None),
    ({0: 0}, None), ((0,) * 41, None), ((9,) * 41, None), ((2,), 0), ((0, -1), 1), ((0, 1, True), 2),
    ((False,), 0), ((1, None, 5), 1), (("0",), 0), ((0, 0, (0,)), 2), (([],), 0), ((0,) * 39 + (2,), 39),
]

# From all its six stands together, no row leads home in fewer than thirty letters.
LONG_WAY_HOME = (
    ((1, 0), None, (0, 0)),
    ((3, 0), (0, 0), (3, 0)),
    ((2, 0), (5, 0), (2, 0)),
    ((5, 0), None, (3, 0)),
    ((0, 0), None, (4, 0)),
    ((4, 0), None, (5, 0)),
)
# To tell the first one of its stands 0 to 3, or the last one, takes 57 letters.
LONG_WAY_FIRST = (
    ((0, 0), (2, 0), (3, 0)),
    ((5, 0), (5, 0), None),
    ((1, 0), None, (1, 0)),
    ((3, 0), None, (4, 0)),
    ((2, 0), (0, 0), (0, 0)),
    ((4, 0), (3, 1), (2, 0)),
)
# Where its stands 0 to 2 lie on one side and 3 and 4 on another one, 43 letters tell the side.
LONG_WAY_SIDE = (
    (None, None, (1, 0)),
    ((2, 0), (3, 0), (5, 0)),
    ((3, 0), None, (0, 0)),
    ((0, 0), None, (4, 0)),
    ((3, 0), None, (2, 0)),
    ((4, 0), (5, 1), (3, 0)),
)
# To tell its stand 0 from the stands 1 to 4 takes 47 letters.
LONG_WAY_OWN = (
    ((3, 0), (3, 0), (5, 0)),
    ((4, 0), (0, 0), (0, 1)),
    ((5, 0), None, None),
    ((2, 0), (4, 0), None),
    ((0, 0), (2, 0), None),
    ((1, 0), (3, 0), None),
)


class Refusing:
    """For a unittest.TestCase: what is common to all errors."""

    def refuse(self, error, call, machine, *values):
        """Expect an error of just that class that changes nothing, and return it."""
        before = copy.deepcopy((machine.table, values))
        with self.assertRaises(error, msg=repr(values)) as caught:
            call(machine, *values)
        self.assertIs(type(caught.exception), error, values)
        self.assertEqual((machine.table, values), before)
        return caught.exception


def written(table, stand, row):
    """What a stand writes, None if it cannot read the row."""
    end = read_row(table, stand, row)
    return None if end is None else end[1]


def read_row(table, stand, row):
    """To which stand a row leads and what is written, None if a step lacks."""
    out = []
    for letter in row:
        if table[stand][letter] is None:
            return None
        stand, wrote = table[stand][letter]
        out.append(wrote)
    return stand, tuple(out)


def all_rows(letters, longest):
    """All rows of at most so many letters, shorter ones first, then lesser ones."""
    for length in range(longest + 1):
        yield from itertools.product(range(letters), repeat=length)


def subsets(stands):
    """All ascending tuples of some of the first so many stands."""
    for many in range(1, stands + 1):
        yield from itertools.combinations(range(stands), many)


def row_reaches(table, stands, aim, row):
    """Tell by the words of point 5 whether a row reaches an aim."""
    ends = [read_row(table, stand, row) for stand in stands]
    if None in ends:
        return False
    for (one, wrote), (other, also) in itertools.combinations(ends, 2):
        if aim == "first" and wrote == also:
            return False
        if aim == "last" and wrote == also and one != other:
            return False
        if aim == "home" and one != other:
            return False
    return True


def lot_behind(stands, aim, ends):
    """The lot to which a row leads, of the ends (stand, written) of all stands, None for nowhere."""
    groups = {}
    for at, wrote in ends:
        groups.setdefault(0 if aim == "home" else wrote, []).append(at)
    if aim == "first" and any(len(set(group)) < len(group) for group in groups.values()):
        return None
    return tuple(sorted({tuple(sorted(set(group))) for group in groups.values()}))


def histories(table, stands):
    """Each state of knowledge that some row brings: for each first stand where it ends and with which others
    it wrote alike; with the least of the shortest rows that bring it, and the rows in their order."""
    start = tuple((stand, 0) for stand in stands)
    rows = {start: ()}
    queue = [start]
    for state in queue:
        for letter in range(len(table[0])):
            after = state_after(table, state, letter)
            if after is not None and after not in rows:
                rows[after] = rows[state] + (letter,)
                queue.append(after)
    return rows


def state_after(table, state, letter):
    """The state of knowledge that a letter brings, None if some step lacks."""
    steps = [table[at][letter] for at, _ in state]
    if None in steps:
        return None
    names = {}
    after = []
    for (_, group), (following, wrote) in zip(state, steps):
        after.append((following, names.setdefault((group, wrote), len(names))))
    return tuple(after)


def state_reaches(state, aim):
    """Tell whether a state of knowledge reaches an aim."""
    if aim == "home":
        return len({at for at, _ in state}) == 1
    groups = len({group for _, group in state})
    return groups == (len(state) if aim == "first" else len(set(state)))


def expected_rows(table, stands, aim, states):
    """The least row that reaches an aim, and the paper, of all states of knowledge."""
    found = [row for state, row in states.items() if state_reaches(state, aim)]
    if found:
        return min(found, key=lambda row: (len(row), row)), None
    lots = {lot_behind(stands, aim, state) for state in states}
    return None, sorted(lots - {None})


def random_step(source, stands, lacks, most_written):
    """A step that lacks in so many of ten cases."""
    if source.randrange(10) < lacks:
        return None
    return (source.randrange(stands), source.randrange(most_written))


def random_table(source, stands, letters, lacks, most_written):
    """A table of a machine, made of such steps."""
    return tuple(
        tuple(random_step(source, stands, lacks, most_written) for _ in range(letters)) for _ in range(stands)
    )


def all_tables(stands, steps):
    """All tables of so many stands and two letters, made of some steps."""
    rows = list(itertools.product(steps, repeat=2))
    return itertools.product(rows, repeat=stands)


def tree_depth(table, stands, aim, value):
    """Judge any value by the words of point 7, following each first stand by itself."""
    return _depth_below(table, [(stand, stand) for stand in stands], aim, range(len(table)), value)


def lead_tree_depth(table, stands, goal, value):
    """Judge any value by the words of point 14, following each first stand by itself."""
    return _depth_below(table, [(stand, stand) for stand in stands], "last", [goal], value)


def _depth_below(table, possible, aim, goals, value):
    # Each that is possible is a first stand and the stand in which the machine is if it began there.
    if type(value) is not tuple or len(value) not in (0, 2):
        return None
    if value == ():
        ends = {at for _, at in possible}
        return 0 if len(ends) == 1 and ends <= set(goals) else None
    letter, branches = value
    if type(letter) is not int or letter not in range(len(table[0])) or type(branches) is not tuple:
        return None
    steps = [(began, table[at][letter]) for began, at in possible]
    if None in [step for _, step in steps]:
        return None
    if any(type(branch) is not tuple or len(branch) != 2 or type(branch[0]) is not int for branch in branches):
        return None
    if [branch[0] for branch in branches] != sorted({step[1] for _, step in steps}):
        return None
    depths = []
    for wrote, below in branches:
        behind = [(began, step[0]) for began, step in steps if step[1] == wrote]
        if aim == "first" and len({at for _, at in behind}) < len(behind):
            return None
        depths.append(_depth_below(table, behind, aim, goals, below))
    return None if None in depths else 1 + max(depths)
