"""Searches among states of knowledge, each of which a letter leads to one other, or nowhere."""


def search(start, letters, lead, is_end):
    """Return the least of the shortest rows that lead to an end, None if none does, and the states come to.

    lead(state, letter) returns a state, or None for nowhere.
    """
    # States stand in the order of their rows, shorter ones first and then lesser ones,
    # so the row of the first end is the one that is asked for.
    rows = {start: ()}
    states = [start]
    index = 0
    while index < len(states):
        state = states[index]
        if is_end(state):
            return rows[state], states
        for letter in range(letters):
            reached = lead(state, letter)
            if reached is not None and reached not in rows:
                rows[reached] = rows[state] + (letter,)
                states.append(reached)
        index += 1
    return None, states


def is_closed(start, states, letters, lead, is_end):
    """Tell whether some states show that no row leads from a start to an end."""
    known = {state: True for state in states}
    if start not in known:
        return False
    for state in states:
        if is_end(state):
            return False
        reached = [lead(state, letter) for letter in range(letters)]
        if not all([following is None or following in known for following in reached]):
            return False
    return True
