"""A fleet and a plan as a text, and back (points 1, 10)."""

import random
import unittest

import plain
import plainshots
from shipsrow.errors import BadLine
from shipsrow.fleets import Fleet
from shipsrow.plans import Plan
from shipsrow.texts import read, write

# Words that texts have, and words that are not quite such.
WORDS = ["fleet", "row", "ring", "gap", "every", "every_back", "cell", "back", "0", "1", "2", "3", "4", "5", "6",
         "7", "-1", "00", "01", "+1", "1.0", "1_", "1e0", "0x1", "one", "Fleet", "rows", "every-back", "cells",
         "True", "None", "\t", "1\t", "\r", "1\r", "\u00a0", "1\u00a0", "\u0661", "\uff11", "\u00b2", "(1,)", "1,",
         "10", "\u2003", "\x0b", "1\x0c2", "\x1c", "\x85", "\u2028"]


def some_texts(seed, many):
    """Fleets, parts of plans, and their texts as lists of lists of words."""
    source = random.Random(seed)
    for _ in range(many):
        at = source.randrange(len(plain.FLEETS))
        picked = source.sample(range(len(plain.PARTS)), source.choice((0, 1, 2, 3, 4, 4)))
        rows = [list(plainshots.FIRST_LINES[at])] + [list(plainshots.PART_LINES[k]) for k in picked]
        yield source, plain.FLEETS[at], tuple(plain.PARTS[k] for k in picked), rows


def joined(rows):
    return "\n".join(" ".join(row) for row in rows)


def spaced(source, rows):
    """The same text with further spaces between words and at the ends of lines."""
    lines = []
    for row in rows:
        gaps = [" " * source.choice((0, 0, 1, 3))] + [" " * source.choice((1, 1, 2, 5)) for _ in row[1:]]
        lines.append("".join(gap + word for gap, word in zip(gaps, row)) + " " * source.choice((0, 1, 2)))
    return "\n".join(lines)


class WriteTest(unittest.TestCase):
    def test_example(self):
        lines = write(Fleet("row", (1, 2), 1), Plan((("every", 3, 2), ("back", 0)))).split("\n")
        self.assertEqual(lines, ["fleet row 1 2 gap 1", "every 3 2", "back 0"])

    def test_all_fleets_and_parts(self):
        for fleet, line in zip(plain.FLEETS, plainshots.FIRST_LINES):
            self.assertEqual(write(Fleet(*fleet), Plan(())), " ".join(line))
        for part, line in zip(plain.PARTS, plainshots.PART_LINES):
            self.assertEqual(write(Fleet("ring", (4,), 0), Plan((part,))), "fleet ring 4 gap 0\n" + " ".join(line))

    def test_many_texts(self):
        for _, fleet, parts, rows in some_texts(51, 200):
            made, plan = Fleet(*fleet), Plan(parts)
            self.assertEqual(write(made, plan), joined(rows))
            self.assertEqual(write(made, plan), joined(rows))
            self.assertEqual((made, plan.parts), (Fleet(*fleet), parts))


class ReadTest(unittest.TestCase):
    def assert_reads(self, text, fleet, parts):
        told = read(text)
        self.assertEqual(told, (Fleet(*fleet), Plan(parts)), text)
        self.assertEqual([type(told), type(told[0]), type(told[1])], [tuple, Fleet, Plan])
        kinds = [type(item) for item in told[0].ships] + [type(told[0].gap)]
        kinds += [type(item) for part in told[1].parts for item in part[1:]]
        self.assertEqual(set(kinds), {int}, text)

    def test_all_fleets_and_parts(self):
        for fleet, line in zip(plain.FLEETS, plainshots.FIRST_LINES):
            self.assert_reads(" ".join(line), fleet, ())
        for part, line in zip(plain.PARTS, plainshots.PART_LINES):
            self.assert_reads("fleet row 1 1 gap 0\n" + " ".join(line), ("row", (1, 1), 0), (part,))

    def test_what_was_written(self):
        for _, fleet, parts, _ in some_texts(52, 200):
            made, plan = Fleet(*fleet), Plan(parts)
            self.assertEqual(read(write(made, plan)), (made, plan))
            self.assertEqual(read(write(made, plan)), (made, plan))
            self.assertEqual(write(*read(write(made, plan))), write(made, plan))

    def test_further_spaces(self):
        self.assert_reads("  fleet   ring 2    gap 1 \n cell 0\nback   5  ", ("ring", (2,), 1),
                          (("cell", 0), ("back", 5)))
        for source, fleet, parts, rows in some_texts(53, 200):
            self.assert_reads(spaced(source, rows), fleet, parts)

    def test_parts_in_their_order(self):
        self.assert_reads("fleet row 1 gap 0\nback 0\ncell 0\nevery_back 2 0\nevery 2 0", ("row", (1,), 0),
                          (("back", 0), ("cell", 0), ("every_back", 2, 0), ("every", 2, 0)))


class BadLineTest(unittest.TestCase):
    def assert_bad(self, text, line, word):
        with self.assertRaises(BadLine, msg=repr(text)) as caught:
            read(text)
        self.assertEqual((caught.exception.line, caught.exception.word), (line, word), repr(text))

    def check(self, text):
        """Hold the text against all lines that can stand; tell whether it is a wrong one."""
        wanted = plainshots.wrong_place(text)
        if wanted is None:
            fleet, plan = read(text)
            rows = [[word for word in row.split(" ") if word] for row in text.split("\n")]
            self.assertEqual(write(fleet, plan), joined(rows))
        else:
            self.assert_bad(text, *wanted)
        return wanted is not None

    def test_example(self):
        self.assert_bad("fleet row 2 1 gap 0", 1, 4)

    def test_first_line(self):
        for text, word in (("flet row 2 gap 0", 1), ("fleet square 2 gap 0", 2), ("fleet row 5 gap 0", 3),
                           ("fleet row 0 gap 0", 3), ("fleet row gap 0", 3), ("fleet row 2 5 gap 0", 4),
                           ("fleet row 2 2 2 gap 0", 5), ("fleet row 2 gap 2", 5), ("fleet row 2 3 gap 2", 6),
                           ("fleet row 2 gap 0 1", 6), ("fleet row 2 3 gap 0 gap", 7), ("fleet row 2 gap gap 0", 5),
                           ("row 2 gap 0", 1), ("fleet 2 gap 0", 2), ("fleet row 2 0", 4), ("fleet row 2 3 0", 5),
                           ("fleet row 4 3 gap 0", 4), ("fleet row 4 1 gap 0", 4), ("fleet ring row 2 gap 0", 3),
                           ("fleet fleet row 2 gap 0", 2), ("fleet row row 2 gap 0", 3), ("gap 0", 1)):
            self.assert_bad(text, 1, word)
            self.assert_bad(text + "\ncell 7\n", 1, word)
            self.assert_bad("  " + text.replace(" ", "   ") + " ", 1, word)

    def test_ends_too_early(self):
        for text, word in (("", 1), ("   ", 1), ("fleet", 2), ("fleet ring", 3), ("fleet ring 2", 4),
                           ("fleet ring 2 2", 5), ("fleet ring 2 gap", 5), ("fleet ring 2 2 gap ", 6)):
            self.assert_bad(text, 1, word)
            self.assert_bad(text + "\nevery 2 1", 1, word)
        for text, word in (("", 1), ("  ", 1), ("every", 2), ("every 3", 3), ("every_back", 2), (" every_back 1", 3),
                           ("cell", 2), ("back", 2)):
            self.assert_bad("fleet row 2 gap 0\n" + text, 2, word)
            self.assert_bad("fleet row 2 gap 0\n" + text + "\nback 0", 2, word)
            self.assert_bad("fleet row 2 gap 0\nback 0\ncell 0\n" + text, 4, word)

    def test_part_lines(self):
        for text, word in (("every 7 0", 2), ("every 0 0", 2), ("every 3 3", 3), ("every 1 1", 3), ("every 6 6", 3),
                           ("every_back 2 5", 3), ("every_back 3 -1", 3), ("every 3 2 1", 4), ("every 3 3 1", 3),
                           ("cell 6", 2), ("cell -1", 2), ("cell 1 1", 3), ("back 6", 2), ("back 5 0", 3),
                           ("every every 3 2", 2), ("3 2", 1), ("cells 1", 1), ("fleet row 2 gap 0", 1),
                           ("every 3 cell", 3), ("cell back", 2), ("1 cell", 1)):
            self.assert_bad("fleet row 2 gap 0\n" + text, 2, word)
            self.assert_bad("fleet row 2 gap 0\nevery 6 5\nback 0\nevery_back 6 5\n" + text, 5, word)

    def test_numbers_written_otherwise(self):
        for number in ("01", "+1", "1.0", "1_0", "-0", "one", "1,", "\u0661", "\uff11", "\u00b9", "True", "0x1", "1e0"):
            self.assert_bad(f"fleet row {number} gap 0", 1, 3)
            self.assert_bad(f"fleet row 1 {number} gap 0", 1, 4)
            self.assert_bad(f"fleet row 1 gap {number}", 1, 5)
            self.assert_bad(f"fleet row 1 gap 0\nevery {number} 0", 2, 2)
            self.assert_bad(f"fleet row 1 gap 0\nevery_back 4 {number}", 2, 3)
            self.assert_bad(f"fleet row 1 gap 0\ncell {number}", 2, 2)
            self.assert_bad(f"fleet row 1 gap 0\nback {number}", 2, 2)

    def test_only_spaces_part_words(self):
        self.assert_bad("fleet\trow 1 gap 0", 1, 1)
        self.assert_bad("fleet row 1 gap\u00a00", 1, 4)
        self.assert_bad("fleet row 1 gap 0\r\ncell 1", 1, 5)
        self.assert_bad("fleet row 1 gap 0\x0bcell 1", 1, 5)
        self.assert_bad("fleet row 1 gap 0 \t", 1, 6)
        self.assert_bad("fleet row 1 gap 0\n\tcell 1", 2, 1)
        self.assert_bad("fleet row 1 gap 0\ncell 1\u2028back 1", 2, 2)

    def test_empty_lines(self):
        self.assert_bad("\nfleet row 1 gap 0", 1, 1)
        self.assert_bad("fleet row 1 gap 0\n", 2, 1)
        self.assert_bad("fleet row 1 gap 0\n  \ncell 1", 2, 1)
        self.assert_bad("fleet row 1 gap 0\ncell 1\n", 3, 1)
        self.assert_bad("fleet row 1 gap 0\ncell 1\n\n", 3, 1)
        self.assert_bad("\n", 1, 1)

    def test_a_part_that_stands_earlier(self):
        self.assert_bad("fleet row 1 gap 0\ncell 1\ncell 1", 3, 2)
        self.assert_bad("fleet row 1 gap 0\nevery 1 0\nevery 1 0", 3, 3)
        self.assert_bad("fleet row 1 gap 0\nevery_back 3 1\nback 1\n every_back  3   1 ", 4, 3)
        self.assert_bad("fleet row 1 gap 0\nback 1\ncell 1\nevery 2 1\nback 1", 5, 2)
        # The last word of that part, also if more words follow.
        self.assert_bad("fleet row 1 gap 0\ncell 1\ncell 1 1", 3, 2)
        self.assert_bad("fleet row 1 gap 0\nevery 2 1\nevery 2 1 back", 3, 3)
        # Ends too early all the same.
        self.assert_bad("fleet row 1 gap 0\nevery 1 0\nevery 1", 3, 3)
        self.assert_bad("fleet row 1 gap 0\ncell 1\ncell", 3, 2)

    def test_a_sixth_line(self):
        five = "fleet row 1 gap 0\ncell 0\ncell 1\ncell 2\ncell 3"
        for line in ("cell 4", "cell 0", "", " ", "back", "x y z", "fleet row 1 gap 0", "\n\n"):
            self.assert_bad(five + "\n" + line, 6, 1)
            self.assert_bad(five + "\n" + line + "\nback 0", 6, 1)
        self.assert_bad(five.replace("cell 2", "cell 6") + "\ncell 4", 4, 2)
        self.assert_bad(five.replace("cell 3", "cell 0") + "\ncell 4", 5, 2)

    def test_first_of_several(self):
        self.assert_bad("fleet row 1 gap 0\ncell 1 2\ncell 7\nx", 2, 3)
        self.assert_bad("fleet ring 2 1 gap 7\ncell 1 2", 1, 4)
        self.assert_bad("fleet ring 1 gap\nevery 1 1", 1, 5)

    def test_each_word_left_out_doubled_or_another(self):
        wrong = 0
        for source, _, _, rows in some_texts(54, 60):
            for at in range(len(rows)):
                for k in range(len(rows[at])):
                    row = rows[at]
                    words = [[], [row[k], row[k]], [source.choice(WORDS)], [row[k], source.choice(WORDS)]]
                    for put in words:
                        changed = rows[:at] + [row[:k] + put + row[k + 1:]] + rows[at + 1:]
                        wrong += self.check(spaced(source, changed))
        self.assertGreater(wrong, 2000)

    def test_words_exchanged(self):
        for source, _, _, rows in some_texts(55, 150):
            spots = [(at, k) for at, row in enumerate(rows) for k in range(len(row))]
            changed = [list(row) for row in rows]
            (at, k), (other, last) = source.sample(spots, 2)
            changed[at][k], changed[other][last] = changed[other][last], changed[at][k]
            self.check(joined(changed))

    def test_lines_left_out_doubled_or_exchanged(self):
        wrong = 0
        for source, _, _, rows in some_texts(56, 100):
            for at in range(len(rows)):
                other = source.randrange(len(rows))
                exchanged = list(rows)
                exchanged[at], exchanged[other] = exchanged[other], exchanged[at]
                wrong += self.check(joined(rows[:at] + rows[at + 1:]))
                wrong += self.check(joined(rows[:at] + [rows[other]] + rows[at:]))
                wrong += self.check(joined(rows[:at] + [[]] + rows[at:]))
                wrong += self.check(joined(rows[:at] + [rows[at][:source.randrange(len(rows[at]))]] + rows[at + 1:]))
                wrong += self.check(joined(exchanged))
        self.assertGreater(wrong, 700)

    def test_drawn_words(self):
        source, wrong = random.Random(57), 0
        for _ in range(3000):
            rows = [list(source.choice(plainshots.FIRST_LINES))]
            for _ in range(source.randint(0, 5)):
                head = source.choice((["every"], ["every_back"], ["cell"], ["back"], []))
                rows.append(head + source.choices(WORDS[8:15], k=source.choice((1, 1, 2, 2, 3))))
            wrong += self.check(spaced(source, rows))
        self.assertGreater(wrong, 1500)
        self.assertLess(wrong, 2950)


if __name__ == "__main__":
    unittest.main()
