"""Trees that choose the next letter by what was written."""

from whichstand.checks import TREE_AIMS, check_aim, check_stands, is_below
from whichstand.lots import lead_block
from whichstand.machines import WRITTEN_LETTERS


def tree(machine, stands, aim):
    """Return a tree of least depth that reaches an aim from some stands, None if there is none."""
    check_stands(machine, stands)
    check_aim(aim, TREE_AIMS)
    return find_least_tree(machine, stands, aim, _single_blocks(machine))[1]


def least_depth(machine, stands, aim):
    """Return the least depth of a tree that reaches an aim from some stands, None if there is none."""
    check_stands(machine, stands)
    check_aim(aim, TREE_AIMS)
    return find_least_tree(machine, stands, aim, _single_blocks(machine))[0]


def depth_of(machine, stands, aim, value):
    """Return the depth of any value, None if it is no tree that reaches the aim from the stands."""
    check_stands(machine, stands)
    check_aim(aim, TREE_AIMS)
    return judge_tree(machine, stands, aim, _single_blocks(machine), value)


def judge_tree(machine, stands, aim, ends, value):
    """Return the depth of any value, None if it is no tree that ends nowhere but in some blocks."""
    greatest = 0
    # Trees wait in a list, as a tree may be deeper than calls can be nested.
    waiting = [(value, stands, 0)]
    while waiting:
        part, block, depth = waiting.pop()
        greatest = max(greatest, depth)
        if part == ():
            if block not in ends:
                return None
            continue
        behind = _trees_behind(machine, block, aim, part)
        if behind is None:
            return None
        waiting.extend([(following, reached, depth + 1) for following, reached in behind])
    return greatest


def find_least_tree(machine, stands, aim, ends):
    """Return the least depth of a tree that ends nowhere but in some blocks, and one that has it, or None, None."""
    # Each round finds the blocks whose least trees are deeper by one than those of the round before,
    # so a block that is found in a round has no tree of fewer letters.
    depth = 0
    blocks = _all_blocks(machine)
    trees = {known: () for known in ends}
    while stands not in trees:
        depth += 1
        deeper = {}
        for block in blocks:
            found = None if block in trees else _tree_over(machine, block, aim, trees)
            if found is not None:
                deeper[block] = found
        if not deeper:
            return None, None
        trees.update(deeper)
    return depth, trees[stands]


def _single_blocks(machine):
    return [(stand,) for stand in range(len(machine))]


def _trees_behind(machine, block, aim, value):
    # The values that stand where trees must stand, each with the block that is possible there.
    if not isinstance(value, tuple) or len(value) != 2:
        return None
    letter, branches = value
    if not is_below(letter, machine.letters) or not isinstance(branches, tuple):
        return None
    parts = lead_block(machine, block, letter, aim)
    if parts is None or len(branches) != len(parts):
        return None
    behind = []
    for branch, (written, reached) in zip(branches, parts):
        if not _is_branch(branch, written):
            return None
        behind.append((branch[1], reached))
    return behind


def _is_branch(value, written):
    if not isinstance(value, tuple) or len(value) != 2:
        return False
    return is_below(value[0], WRITTEN_LETTERS) and value[0] == written


def _tree_over(machine, block, aim, trees):
    # A tree for a block that reads one letter more than some known trees, None if there is none.
    for letter in range(machine.letters):
        parts = lead_block(machine, block, letter, aim)
        if parts is not None and all([reached in trees for _, reached in parts]):
            return letter, tuple([(written, trees[reached]) for written, reached in parts])
    return None


def _all_blocks(machine):
    blocks = [()]
    for stand in range(len(machine)):
        blocks = blocks + [block + (stand,) for block in blocks]
    return [block for block in blocks if len(block) > 0]
