"""The promises 1, 2 and 3 as whichbroke.notes keeps them."""

import random
import re
import unittest

from tests.refusing import RefusingTest
from tests.samples import called, random_work, sample_works, small_work
from whichbroke.errors import BadText
from whichbroke.notes import read, written
from whichbroke.works import need_work

TEXT = "ring 3 inputs 2\nsum 0 1\nstop 2 0\npick 3 1 2\nnot 4"
LENGTHS = {"sum": 2, "stop": 2, "pick": 3, "not": 1}
NUMBER = "(?:0|[1-9][0-9]?)"
WHOLE = re.compile(f"ring ([2-5]) inputs ([1-6])((?:\n(?:sum|stop|pick|not)(?: {NUMBER}){{1,3}}){{1,10}})")

# Blanks, line ends, digits and signs of many kinds, some of which Python takes for one another.
SIGNS = [" ", "\n", "\t", "\r", "\x00", "\x0b", "\x0c", "\x1c", "\x85", "\xa0", "\u2003", "\u2028", "\u3000",
         "0", "1", "9", "-", "+", "_", ".", ",", "\xb2", "\u0661", "\uff11", "\u0967", "a", "N", "\xdf", "\ud800", "#"]


def slow_read(text):
    """The work that a text writes, or None, written apart from the program."""
    found = WHOLE.fullmatch(text)
    if not found:
        return None
    inputs = int(found[2])
    parts = []
    for number, row in enumerate(found[3][1:].split("\n")):
        word, *lines = row.split(" ")
        if len(lines) != LENGTHS[word] or max(map(int, lines)) >= inputs + number:
            return None
        parts.append((word, *map(int, lines)))
    return (int(found[1]), inputs, parts)


def works():
    """Works at the edges, and ordinary ones."""
    chance = random.Random(79)
    edges = [(5, 6, [("pick", 15 - number, 5, 0) for number in range(10, 0, -1)]),
             (2, 6, [("sum", 5 + number, 5 + number) for number in range(10)])]
    return sample_works() + edges + [random_work(chance) for _ in range(20)]


class NotesTest(RefusingTest):

    def judged(self, text):
        """The text is read, or refused, just as the second opinion has it."""
        expected = slow_read(text)
        if expected is None:
            self.refused(BadText, read, text)
        else:
            self.assertEqual(read(text), expected, repr(text))

    def all_bad(self, texts):
        """Each of the texts is refused."""
        for text in texts:
            with self.subTest(text=ascii(text[:80])):
                self.refused(BadText, read, text)


class WrittenTest(NotesTest):

    def test_a_row_for_the_work_and_one_for_each_part(self):
        self.assertEqual(called(written, small_work()), TEXT)

    def test_one_part(self):
        self.assertEqual(called(written, (2, 1, [("not", 0)])), "ring 2 inputs 1\nnot 0")
        self.assertEqual(called(written, (5, 6, [("pick", 5, 0, 5)])), "ring 5 inputs 6\npick 5 0 5")

    def test_ten_parts_with_lines_of_two_digits(self):
        work = (5, 6, [("not", line) for line in range(5, 15)])
        rows = ["ring 5 inputs 6"] + [f"not {line}" for line in range(5, 15)]
        self.assertEqual(called(written, work), "\n".join(rows))

    def test_no_line_end_and_no_blank_at_either_end(self):
        for work in works():
            text = called(written, work)
            self.assertEqual(text, text.strip())
            self.assertEqual(text.count("\n"), len(work[2]))
            self.assertEqual(slow_read(text), work)
            self.assertIs(text.__class__, str)


class ReadTest(NotesTest):

    def test_what_was_written_is_read(self):
        self.assertEqual(called(read, TEXT), small_work())
        for work in works():
            told = called(read, written(work))
            self.assertEqual(told, work)
            self.assertEqual(repr(told), repr(work))
            self.assertTrue(need_work(told))

    def test_rings_and_inputs_at_the_edges(self):
        for ring in range(12):
            self.judged(f"ring {ring} inputs 1\nnot 0")
            self.judged(f"ring 3 inputs {ring}\nnot 0")
        self.assertEqual(read("ring 2 inputs 6\nnot 5"), (2, 6, [("not", 5)]))
        self.all_bad(["ring 1 inputs 1\nnot 0", "ring 6 inputs 1\nnot 0", "ring 3 inputs 0\nnot 0",
                      "ring 3 inputs 7\nnot 0"])

    def test_from_one_to_ten_parts(self):
        for many in range(13):
            self.judged("\n".join(["ring 2 inputs 1"] + ["not 0"] * many))
        self.all_bad(["ring 2 inputs 1", "ring 2 inputs 1\n", "ring 2 inputs 1" + "\nnot 0" * 11])

    def test_lines_ahead_of_the_own_one_alone(self):
        for line in range(20):
            self.judged(f"ring 3 inputs 2\nnot 0\nsum 0 1\npick 0 {line} 1")
        self.all_bad(["ring 3 inputs 2\nnot 2", "ring 3 inputs 2\nnot 3\nnot 0", "ring 3 inputs 2\nnot -1"])

    def test_one_sign_left_out_or_twice(self):
        for work in works():
            text = written(work)
            for at in range(len(text)):
                self.judged(text[:at] + text[at + 1:])
                self.judged(text[:at] + text[at] + text[at:])

    def test_one_sign_put_in_or_changed(self):
        for work in works()[:16]:
            text = written(work)
            for at in range(len(text) + 1):
                for sign in SIGNS:
                    self.judged(text[:at] + sign + text[at:])
                    self.judged(text[:at] + sign + text[at + 1:])

    def test_two_signs_turned_about(self):
        for work in works():
            text = written(work)
            for at in range(len(text) - 1):
                self.judged(text[:at] + text[at + 1] + text[at] + text[at + 2:])

    def test_rows_turned_about_twice_or_left_out(self):
        for work in works():
            rows = written(work).split("\n")
            for at in range(len(rows)):
                self.judged("\n".join(rows[:at] + rows[at + 1:]))
                self.judged("\n".join(rows[:at] + [rows[at]] + rows[at:]))
                self.judged("\n".join(rows[:at] + [""] + rows[at:]))
                for other in range(at):
                    turned = list(rows)
                    turned[at], turned[other] = rows[other], rows[at]
                    self.judged("\n".join(turned))
            self.refused(BadText, read, "\n".join(rows[::-1]))
            self.refused(BadText, read, "\n".join(rows * 2))
        # Rows that are right in either order are another work.
        self.assertEqual(read("ring 3 inputs 2\nnot 1\nnot 0"), (3, 2, [("not", 1), ("not", 0)]))

    def test_blanks_and_line_ends_at_either_end_and_in_between(self):
        for text in (TEXT, "ring 2 inputs 1\nnot 0"):
            for ends in (" ", "\n", "\r\n", "\t", "\n\n", " \n", "\r", "\x0b", "\x0c", "\u2028", "\ufeff", "\x00"):
                self.all_bad([ends + text, text + ends, ends + text + ends, text.replace("\n", ends + "\n"),
                              text.replace("\n", "\n" + ends)])
                if ends not in (" ", "\n"):
                    self.all_bad([text.replace(" ", ends), text.replace("\n", ends)])
            self.all_bad([text.replace(" ", "  "), text.replace("\n", " "), text.replace(" ", "\n"),
                          text.replace("\n", "\n\n")])

    def test_other_ways_to_write_a_number(self):
        for number in ("00", "01", "+0", "-0", "0.0", "0x0", "0_0", "1_0", " 0", "\u0660", "\xb2", "\uff10", "True",
                       "None", "", "zero", "1e0", "0j", "10", "100", "-1", "0" * 50, "9" * 5000, "1" + "0" * 10000):
            self.all_bad([f"ring 3 inputs 2\nnot {number}", f"ring {number} inputs 2\nnot 0",
                          f"ring 3 inputs {number}\nnot 0", f"ring 3 inputs 2\nnot 0\npick 0 {number} 1"])
        self.all_bad(["ring 03 inputs 2\nnot 0", "ring 3 inputs +2\nnot 0", "ring \u0663 inputs 2\nnot 0"])

    def test_other_words(self):
        for word in ("Ring", "RING", "rings", "", "inputs", "ring:", "sum"):
            self.all_bad([TEXT.replace("ring", word)])
        for word in ("input", "Inputs", "", "ring", "inputs:"):
            self.all_bad([TEXT.replace("inputs", word)])
        for word in ("Not", "NOT", "nots", "", "no", "and", "sum", "pick", "stop", "not not", "ring"):
            self.all_bad([f"ring 3 inputs 2\n{word} 0", f"ring 3 inputs 2\nnot 0\n{word} 0"])

    def test_rows_with_too_few_and_too_many_lines(self):
        for word, takes in LENGTHS.items():
            for many in range(6):
                text = "ring 3 inputs 2\n" + " ".join([word] + ["1"] * many)
                if many == takes:
                    self.assertEqual(read(text), (3, 2, [(word,) + (1,) * many]))
                else:
                    self.refused(BadText, read, text)
        self.all_bad(["ring 3 inputs\nnot 0", "ring 3\nnot 0", "ring\nnot 0", "\nnot 0", "not 0",
                      "ring 3 inputs 2 2\nnot 0", "ring 3 inputs 2 parts 1\nnot 0", "inputs 2 ring 3\nnot 0"])

    def test_texts_of_other_kinds(self):
        self.all_bad(["", " ", "\n", "\n\n\n", "0", "ring", "work", "None", repr(small_work()), "\x00", "\ud800",
                      "\U0001f600", "a" * 100000, "\n" * 100000, " " * 100000, TEXT.upper(), TEXT[::-1], TEXT * 2,
                      TEXT + "\n" + TEXT, TEXT + "\nend", "# " + TEXT, '"' + TEXT + '"'])

    def test_an_answer_is_the_askers_own(self):
        first = read(TEXT)
        first[2].clear()
        self.assertEqual(read(TEXT), small_work())

    def test_nothing_handed_in_is_kept(self):
        work = small_work()
        text = written(work)
        work[2].pop()
        self.assertEqual(text, TEXT)
        self.assertEqual(written(work), TEXT[:-len("\nnot 4")])


if __name__ == "__main__":
    unittest.main()
