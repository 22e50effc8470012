"""Trees that lead surely to a told stand."""

from whichstand.checks import check_stand, check_stands
from whichstand.trees import find_least_tree, judge_tree

# Stands that write alike may come together on the way, as they may where the last stand is asked for.
AIM = "last"


def lead_depth(machine, stands, goal, value):
    """Return the depth of any value, None if it is no tree that leads some stands to a goal."""
    check_stands(machine, stands)
    check_stand(machine, goal)
    return judge_tree(machine, stands, AIM, [(goal,)], value)


def least_lead(machine, stands, goal):
    """Return the least depth of a tree that leads some stands to a goal, None if there is none."""
    check_stands(machine, stands)
    check_stand(machine, goal)
    return find_least_tree(machine, stands, AIM, [(goal,)])[0]


def lead(machine, stands, goal):
    """Return a tree of least depth that leads some stands to a goal, None if there is none."""
    check_stands(machine, stands)
    check_stand(machine, goal)
    return find_least_tree(machine, stands, AIM, [(goal,)])[1]
