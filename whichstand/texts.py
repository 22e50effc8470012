"""Texts of machines: a line for each stand."""

from whichstand.errors import InvalidText
from whichstand.machines import LETTER_COUNTS, MOST_STANDS, WRITTEN_LETTERS, Machine

FIRST_WORD = "stand"
LACKING = "-"


def write(machine):
    """Return the text of a machine."""
    return "\n".join([_write_line(steps) for steps in machine.table])


def read(text):
    """Return the machine of a text."""
    lines = text.split("\n")
    stands = min(len(lines), MOST_STANDS)
    steps = _steps_by_word(stands)
    table = []
    for index in range(stands):
        words = [word for word in lines[index].split(" ") if word]
        counts = (len(table[0]),) if table else LETTER_COUNTS
        fault = _find_fault(words, steps, counts)
        if fault is not None:
            raise InvalidText(index + 1, fault)
        table.append(tuple([steps[word] for word in words[1:]]))
    if len(lines) > MOST_STANDS:
        raise InvalidText(MOST_STANDS + 1, 1)
    return Machine(tuple(table))


def _write_line(steps):
    return " ".join([FIRST_WORD] + [_write_step(step) for step in steps])


def _write_step(step):
    if step is None:
        return LACKING
    return f"{step[0]}:{step[1]}"


def _steps_by_word(stands):
    # A word is a step only if it is what would be written for it, so no number has to be read.
    steps = [None]
    steps.extend([(following, written) for following in range(stands) for written in range(WRITTEN_LETTERS)])
    return {_write_step(step): step for step in steps}


def _find_fault(words, steps, counts):
    # The number of the first word of a line that cannot stand there, None if there is none:
    # counts tells how many steps the line may have.
    for index, word in enumerate(words):
        if index == 0 and word != FIRST_WORD:
            return 1
        if index > 0 and (word not in steps or index > max(counts)):
            return index + 1
    if len(words) - 1 < min(counts):
        return len(words) + 1
    return None
