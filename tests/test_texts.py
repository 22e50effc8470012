import itertools
import random
import re
import unittest

from direct import random_table
from whichstand.errors import InvalidText
from whichstand.machines import Machine
from whichstand.texts import read, write

TWO = "stand 0:0 1:0\nstand 0:1 -"
THREE = "stand 0:0 1:3 -\nstand - 2:2 0:1\nstand 1:0 2:0 2:1"
WORDS = ["stand", "-", "0:0", "1:1", "2:3", "5:3", "0:4", "6:0", "00:1", "stands", "0", ":", "+0:0", "--", "0:0:0"]


def first_fault(text):
    """Line and word of the first fault of a text by the words of point 10, None if there is none."""
    lines = text.split("\n")
    stands = min(6, len(lines))
    step = re.compile("-|[0-%d]:[0-3]" % (stands - 1), re.ASCII)
    many = None
    for line in range(1, stands + 1):
        words = re.findall("[^ ]+", lines[line - 1])
        for word, text_of_word in enumerate(words, start=1):
            if word == 1 and text_of_word != "stand":
                return line, 1
            if word > 1 and not step.fullmatch(text_of_word):
                return line, word
            if word > 4 or (many is not None and word > many):
                return line, word
        if len(words) < (3 if many is None else many):
            return line, len(words) + 1
        many = len(words)
    return (7, 1) if len(lines) > 6 else None


class WriteTest(unittest.TestCase):
    def test_example(self):
        machine = Machine((((0, 0), (1, 0)), ((0, 1), None)))
        self.assertEqual(write(machine).split("\n"), ["stand 0:0 1:0", "stand 0:1 -"])

    def test_word_by_word_for_machines_of_each_size(self):
        source = random.Random(51)
        for stands, letters, lacks in itertools.product(range(1, 7), (2, 3), (0, 3, 10)):
            table = random_table(source, stands, letters, lacks, 4)
            lines = write(Machine(table)).split("\n")
            self.assertEqual(len(lines), stands)
            for line, steps in zip(lines, table):
                words = line.split(" ")
                self.assertEqual(words[0], "stand")
                self.assertEqual(len(words), letters + 1)
                for word, step in zip(words[1:], steps):
                    self.assertEqual(word, "-" if step is None else "%d:%d" % step)

    def test_no_newline_behind_the_last_line(self):
        self.assertEqual(write(Machine(((None, None),))), "stand - -")
        self.assertEqual(write(Machine((((0, 3), None, (0, 0)),))), "stand 0:3 - 0:0")
        self.assertEqual(write(Machine(((None, None, (1, 2)),) * 2)), "stand - - 1:2\nstand - - 1:2")

    def test_repeated_calls(self):
        machine = Machine((((0, 0), (1, 0)), ((0, 1), None)))
        table = machine.table
        self.assertEqual(write(machine), write(machine))
        self.assertIs(type(write(machine)), str)
        self.assertEqual(machine.table, table)


class ReadTest(unittest.TestCase):
    def refuse(self, text, line, word):
        with self.assertRaises(InvalidText, msg=repr(text)) as caught:
            read(text)
        error = caught.exception
        self.assertIs(type(error), InvalidText)
        self.assertEqual((error.line, error.word), (line, word), repr(text))
        self.assertEqual((type(error.line), type(error.word)), (int, int))
        self.assertEqual(first_fault(text), (line, word), repr(text))

    def accept(self, text, table):
        machine = read(text)
        self.assertIs(type(machine), Machine)
        self.assertEqual(machine.table, table, repr(text))
        self.assertEqual(machine, Machine(table))
        self.assertIsNone(first_fault(text))

    def test_example(self):
        self.refuse("stand 0:0 1:0\nstand 2:1 -", 2, 2)

    def test_what_was_written_is_read_back(self):
        source = random.Random(52)
        for stands, letters, lacks in itertools.product(range(1, 7), (2, 3), (0, 1, 5, 10)):
            for _ in range(5):
                machine = Machine(random_table(source, stands, letters, lacks, 4))
                self.assertEqual(read(write(machine)), machine)
                self.accept(write(machine), machine.table)

    def test_each_step_that_can_be_written(self):
        for following, wrote in itertools.product(range(6), range(4)):
            text = "\n".join(["stand - %d:%d" % (following, wrote)] * 6)
            self.accept(text, ((None, (following, wrote)),) * 6)

    def test_further_spaces(self):
        table = read(TWO).table
        for text in (
            " stand 0:0 1:0\nstand 0:1 -",
            "stand 0:0 1:0 \nstand 0:1 -",
            "stand 0:0 1:0\n stand 0:1 -",
            "stand 0:0 1:0\nstand 0:1 - ",
            "stand  0:0 1:0\nstand 0:1 -",
            "stand 0:0    1:0\nstand 0:1   -",
            "    stand   0:0   1:0     \n   stand     0:1   -    ",
        ):
            self.accept(text, table)
        self.refuse("  stand   0:0  1:0  \n   stand    0:1     2:0   ", 2, 3)
        self.refuse("   \n stand - -", 1, 1)

    def test_only_spaces_and_newlines_part_words(self):
        self.refuse("stand\t0:0 1:0", 1, 1)
        self.refuse("stand 0:0\t0:0", 1, 2)
        self.refuse("stand 0:0 0:0\t", 1, 3)
        self.refuse("stand 0:0 0:0 \t", 1, 4)
        self.refuse("\tstand 0:0 0:0", 1, 1)
        self.refuse("stand 0:0 0:0\r\nstand 0:0 0:0", 1, 3)
        self.refuse("stand 0:0 0:0\x0bstand 0:0 0:0", 1, 3)
        self.refuse("stand 0:0 0:0\u2028stand 0:0 0:0", 1, 3)
        self.refuse("stand 0:0\u00a00:0 -", 1, 2)
        self.refuse("\r", 1, 1)

    def test_the_word_stand(self):
        for word in ("Stand", "STAND", "stan", "stands", "row", "0:0", "-", "0", "stand:", "stand-"):
            self.refuse(word + " 0:0 0:0", 1, 1)
            self.refuse(word, 1, 1)
            self.refuse("stand 0:0 0:0\n" + word + " 0:0 0:0", 2, 1)
        self.refuse("0:0 0:0", 1, 1)
        self.refuse("- - -", 1, 1)
        self.refuse("stand - -\n- - -", 2, 1)
        self.refuse("stand stand - -", 1, 2)
        self.refuse("stand - stand", 1, 3)
        self.refuse("- stand -", 1, 1)

    def test_a_dash_where_a_step_lacks(self):
        for steps in itertools.product(("-", "0:2"), repeat=3):
            table = (tuple(None if step == "-" else (0, 2) for step in steps),)
            self.accept("stand " + " ".join(steps), table)
            self.accept("stand " + " ".join(steps[:2]), (table[0][:2],))
        for word in ("--", "_", "-:-", "0:-", "-:0", "None", "\u2013", "\u2212"):
            self.refuse("stand - " + word, 1, 3)

    def test_the_first_line_has_two_or_three_steps(self):
        self.refuse("stand", 1, 2)
        self.refuse("stand -", 1, 3)
        self.refuse("stand 0:0", 1, 3)
        self.accept("stand - -", ((None, None),))
        self.accept("stand - - -", ((None, None, None),))
        self.refuse("stand - - - -", 1, 5)
        self.refuse("stand - - - 0:0 0:0", 1, 5)
        self.refuse("stand - - - x y z", 1, 5)
        self.refuse("stand - - - stand", 1, 5)
        self.refuse("stand\nstand - -", 1, 2)
        self.refuse("stand 1:0\nstand - -", 1, 3)

    def test_later_lines_have_as_many_steps_as_the_first(self):
        two = "stand - 0:0"
        three = "stand - 0:0 1:1"
        self.refuse(two + "\n" + three, 2, 4)
        self.refuse(three + "\n" + two, 2, 4)
        self.refuse(two + "\nstand -", 2, 3)
        self.refuse(two + "\nstand", 2, 2)
        self.refuse(three + "\nstand -", 2, 3)
        self.refuse(three + "\nstand", 2, 2)
        self.refuse(three + "\n" + three + " -", 2, 5)
        self.refuse(two + "\n" + two + " - -", 2, 4)
        self.refuse("\n".join([two, two, two, three]), 4, 4)
        self.refuse("\n".join([three] * 5 + [two]), 6, 4)
        # The first bad word counts, also ahead of one that is too many, or of one that lacks.
        self.refuse(two + "\nstand x - -", 2, 2)
        self.refuse(three + "\nstand x", 2, 2)
        self.refuse(two + "\nstand - - x", 2, 4)

    def test_lines_without_words(self):
        self.refuse("", 1, 1)
        self.refuse(" ", 1, 1)
        self.refuse("\n", 1, 1)
        self.refuse("\n" + TWO, 1, 1)
        self.refuse("     \n" + TWO, 1, 1)
        self.refuse(TWO + "\n", 3, 1)
        self.refuse(TWO + "\n   ", 3, 1)
        self.refuse(TWO + "\n\n", 3, 1)
        self.refuse(TWO.replace("\n", "\n\n"), 2, 1)
        self.refuse("stand - -\n", 2, 1)
        self.refuse("\n".join(["stand - -"] * 5 + [""]), 6, 1)

    def test_an_empty_line_counts_as_a_stand(self):
        self.refuse("stand 1:0 1:0", 1, 2)
        self.refuse("stand 1:0 1:0\n", 2, 1)
        self.refuse("stand 2:0 1:0\n", 1, 2)

    def test_a_seventh_line(self):
        line = "stand 5:0 0:3"
        six = [line] * 6
        self.accept("\n".join(six), (((5, 0), (0, 3)),) * 6)
        for seventh in (line, "", "x", "stand", "stand 9:9", "stand - - -"):
            self.refuse("\n".join(six + [seventh]), 7, 1)
            self.refuse("\n".join(six + [seventh, line]), 7, 1)
            self.refuse("\n".join(six + [line, seventh]), 7, 1)
            self.refuse("\n".join(six + [seventh] * 10), 7, 1)
        for index in range(6):
            for bad, word in (("", 1), ("stand", 2), ("stand 5:0", 3), ("stand 6:0 0:0", 2), (line + " - -", 4)):
                # The first line may have a third step, so its fourth one is that which is too many.
                word = 5 if index == 0 and word == 4 else word
                lines = six[:index] + [bad] + six[index + 1:] + [line]
                self.refuse("\n".join(lines), index + 1, word)
                self.refuse("\n".join(lines + ["x"]), index + 1, word)
        # Of seven lines, six are stands: there is no stand 6.
        self.refuse("\n".join(six[:5] + ["stand 0:0 6:0", line]), 6, 3)
        self.refuse("\n".join(["stand 6:0 6:0"] * 7), 1, 2)

    def test_next_stands_are_as_many_as_lines(self):
        for stands in range(1, 7):
            lines = ["stand 0:0 -"] * stands
            for index, following in itertools.product(range(stands), range(10)):
                text = "\n".join(lines[:index] + ["stand 0:0 %d:1" % following] + lines[index + 1:])
                if following < stands:
                    self.assertEqual(read(text).table[index], ((0, 0), (following, 1)))
                else:
                    self.refuse(text, index + 1, 3)

    def test_written_letters_from_0_to_3(self):
        for wrote in range(12):
            text = "stand - 0:%d" % wrote
            if wrote < 4:
                self.accept(text, ((None, (0, wrote)),))
            else:
                self.refuse(text, 1, 3)

    def test_numbers_as_str_writes_them(self):
        words = [
            "+0:0", "0:+0", "-0:0", "0:-0", "-1:0", "00:0", "0:00", "01:0", "0:01", "1:01", "0_0:0", "0:0_0",
            "0.0:0", "0:0.0", "0x0:0", "0:0x0", "1e0:0", "\u0661:0", "0:\u0661", "\uff10:0", "0:\uff10",
            "\u00b2:0", "0:\u00b9", "a:0", "0:a", "True:0", "0:False", "(0):0", "'0':0",
        ]
        for word in words:
            self.refuse("stand " + word + " -\nstand - -", 1, 2)
            self.refuse("stand - -\nstand - " + word, 2, 3)

    def test_one_colon(self):
        for word in ("00", "0", "1", "0:0:0", "0::0", ":", "::", "0:", ":0", "0;0", "0-0", "0,0", "0:0:", ":0:0"):
            self.refuse("stand " + word + " -", 1, 2)
            self.refuse("stand - - " + word, 1, 4)
        self.refuse("stand 0 :0 -", 1, 2)
        self.refuse("stand 0: 0 -", 1, 2)
        self.refuse("stand - 0 : 0", 1, 3)

    def test_of_several_faults_the_first_counts(self):
        self.refuse("stand 0:9 9:0\nstand", 1, 2)
        self.refuse("stand - 9:0\nstan", 1, 3)
        self.refuse("stand - -\nstand - 9:0 - -\n", 2, 3)
        self.refuse("stand - -\nstand - - -\nx", 2, 4)
        self.refuse("stan 9:0\n", 1, 1)

    def test_words_and_lines_put_in_taken_out_replaced_and_turned_round(self):
        source = random.Random(53)
        met = set()
        for _ in range(4000):
            machine = Machine(random_table(source, source.randrange(1, 7), source.choice((2, 3)), 2, 4))
            lines = [line.split(" ") for line in write(machine).split("\n")]
            for _ in range(source.choice((1, 1, 2, 3))):
                spoil(source, lines)
            text = "\n".join([" ".join(words) for words in lines])
            fault = first_fault(text)
            met.add(fault)
            if fault is None:
                self.assertEqual(write(read(text)), re.sub(" +", " ", text).strip(), repr(text))
            else:
                self.refuse(text, *fault)
        self.assertLessEqual({None, (1, 1), (1, 5), (2, 1), (2, 5), (3, 2), (6, 1), (7, 1)}, met)

    def test_repeated_calls(self):
        self.assertEqual(read(THREE), read(THREE))
        self.assertIsNot(read(THREE), read(THREE))
        for _ in range(2):
            self.refuse(THREE + " -", 3, 5)
        self.assertEqual(write(read(THREE)), THREE)


def spoil(source, lines):
    """Put a word or a line of a text in, take one out, replace one or turn two round."""
    deed = source.randrange(8)
    line = source.randrange(len(lines))
    words = lines[line]
    at = source.randrange(len(words) + 1)
    if deed == 0:
        words.insert(at, source.choice(WORDS))
    elif deed == 1:
        del words[at:at + 1]
    elif deed == 2:
        words[at:at + 1] = [source.choice(WORDS)]
    elif deed == 3:
        other = source.randrange(len(words) + 1)
        words[at:at + 1], words[other:other + 1] = words[other:other + 1], words[at:at + 1]
    elif deed == 4:
        lines.insert(line, list(source.choice(lines)))
    elif deed == 5 and len(lines) > 1:
        del lines[line]
    elif deed == 6:
        lines.insert(source.randrange(len(lines) + 1), source.choice(([], [""], ["stand"], ["-"])))
    else:
        other = source.randrange(len(lines))
        lines[line], lines[other] = lines[other], lines[line]


if __name__ == "__main__":
    unittest.main()
