"""Values that are trees, or nearly so, for the tests of trees."""


def all_trees(depth):
    """All trees of at most that depth that read the letters 0 and 1, and branch by 0, by 1 or by both."""
    if depth == 0:
        return [()]
    below = all_trees(depth - 1)
    branches = [((written, one),) for written in (0, 1) for one in below]
    branches += [((0, one), (1, other)) for one in below for other in below]
    return [()] + [(letter, some) for letter in (0, 1) for some in branches]


def places(value):
    """The ways to all parts of nested tuples, each a tuple of indexes."""
    yield ()
    if isinstance(value, tuple):
        for index, part in enumerate(value):
            for way in places(part):
                yield (index,) + way


def part_at(value, way):
    for index in way:
        value = value[index]
    return value


def put_at(value, way, part):
    """Nested tuples with one part replaced."""
    if way == ():
        return part
    below = put_at(value[way[0]], way[1:], part)
    return value[:way[0]] + (below,) + value[way[0] + 1:]


def reading_on(depth, letter, written):
    """A tree that reads a letter again and again, where always the same is written."""
    value = ()
    for _ in range(depth):
        value = (letter, ((written, value),))
    return value
