"""Lines: written, read back, and every kind of line that is refused."""

import copy
import unittest

from samples import HUNDRED_FIGURES, Refusing
from strongway.ballots import is_ballot
from strongway.errors import NoBallot, NoLine
from strongway.notes import read, shown

PAIRS = (
    (0, [], ""),
    (1, [], ""),
    (3, [], ""),
    (1, [[0]], "0"),
    (3, [[2, 0], [1]], "2=0>1"),
    (3, [[2], [0], [1]], "2>0>1"),
    (3, [[2, 0, 1]], "2=0=1"),
    (3, [[1]], "1"),
    (3, [[0, 2]], "0=2"),
    (3, [[2, 0]], "2=0"),
    (5, [[4], [3, 1]], "4>3=1"),
    (12, [[10, 1, 11], [0], [9, 2]], "10=1=11>0>9=2"),
    (100, [[99], [10], [90, 20]], "99>10>90=20"),
    (101, [[100, 0], [10]], "100=0>10"),
    (1000, [[999]], "999"),
)
NAMED_IN_THE_DOCUMENT = ("3", "0>0", "0>", "=1", "00", "0 >1", "-1", "0>>1")
MORE = (
    "01", "02>1", "0>01", "1=00", "000", "10", "4", "1>3", "3=1", "1=1", "0=1>0", "0=1=0", "2>1>2",
    ">", "=", ">0", "0=", "0=>1", "0>=1", "0==1", "=0>1", ">0=1", "0>1>", "0>1=", ">>", "==", "=>", ">=",
    "+1", "-0", "0-1", "0+1", "--1", "1.", "1.0", ".1", "1e0", "0x1", "0b1", "1_0", "1_", "_1", "0,1", "0<1", "0;1",
    " ", "  ", " 0", "0 ", "0> 1", "0>1 ", "0 =1", "0= 1", "0 1", "\t0", "0\t", "0\n", "\n", "\n0", "0\n>1", "0\r",
    "\x000", "\x0b0", "0\x1f", "0\x7f", "a", "A", "0a", "a0", "0>a", "l", "O", "none", "[]", "[[0]]", "(0)",
    "'0'", "\"0\"", "0/1", "0|1", "0\\1", "0&1", "0~1", "0*1", "0:1", "#0", "0!", "$", "?", "@", "^", "`", "{0}",
    str(HUNDRED_FIGURES), "-" + str(HUNDRED_FIGURES), "0>" + str(HUNDRED_FIGURES), "0=" + str(HUNDRED_FIGURES) + ">1",
    "0" * 100, "0" * 99 + "1", "1" * 5000, "0>" + "9" * 20000,
)
NO_ASCII = ("\u0661", "\u00b2", "\uff10", "0\u00a0>1", "\u0967>0")


class Lines(unittest.TestCase):
    def test_pairs(self):
        for count, ballot, line in PAIRS:
            with self.subTest(count=count, ballot=ballot):
                before = copy.deepcopy(ballot)
                self.assertEqual(shown(ballot), line)
                self.assertEqual(ballot, before)
                self.assertEqual(read(count, line), ballot)
                self.assertIsInstance(shown(ballot), str)

    def test_every_two_figures(self):
        for one in range(120):
            for other in range(one + 1, 120, 7):
                for ballot, line in (([[one, other]], f"{one}={other}"), ([[other], [one]], f"{other}>{one}")):
                    self.assertEqual(shown(ballot), line)
                    self.assertEqual(read(120, line), ballot)

    def test_every_single_number(self):
        for count in range(0, 125):
            for number in range(0, 130):
                if number < count:
                    self.assertEqual(read(count, str(number)), [[number]])
                else:
                    with self.assertRaises(NoLine):
                        read(count, str(number))

    def test_numbers_of_a_hundred_figures(self):
        ballot = [[HUNDRED_FIGURES, 1], [0]]
        self.assertEqual(shown(ballot), "1" + "0" * 99 + "=1>0")

    def test_all_choices(self):
        for count in (100, 110):
            for ballot in ([[choice] for choice in range(count)], [list(range(count))], [[0], list(range(1, count))]):
                self.assertEqual(read(count, shown(ballot)), ballot)
        self.assertEqual(shown([[choice] for choice in range(100)]), ">".join(map(str, range(100))))
        self.assertEqual(shown([list(range(100))]), "=".join(map(str, range(100))))

    def test_a_thousand_lines(self):
        for turn in range(1000):
            ballot = [[(turn + step) % 100] for step in range(100)]
            self.assertEqual(read(100, shown(ballot)), ballot)

    def test_argument_names(self):
        self.assertEqual(shown(ballot=[[1]]), "1")
        self.assertEqual(read(count=2, line="1"), [[1]])


class Refusals(Refusing):
    def test_lines_that_the_document_names(self):
        for line in NAMED_IN_THE_DOCUMENT:
            self.refuse(NoLine, read, 3, line)

    def test_more_lines(self):
        for line in MORE:
            self.refuse(NoLine, read, 3, line)

    def test_signs_that_are_no_ascii(self):
        for line in NO_ASCII:
            self.refuse(NoLine, read, 3, line)
            self.refuse(NoLine, read, 100, line)

    def test_more_choices_do_not_help_a_wrong_form(self):
        for line in NAMED_IN_THE_DOCUMENT[1:]:
            self.refuse(NoLine, read, 100, line)
        for line in MORE:
            if line not in ("10", "4", "1>3", "3=1"):
                self.refuse(NoLine, read, 100, line)
                self.refuse(NoLine, read, 100000, line)
        for line in ("010", "10>", "10>10", "1 0", "+10", "100", "99>100", "10=", "0099", "1>099", "-10", "1_1"):
            self.refuse(NoLine, read, 100, line)

    def test_any_line_but_the_empty_one_where_there_are_no_choices(self):
        for line in NAMED_IN_THE_DOCUMENT + MORE + ("0", "1", "0>1", "0=1"):
            self.refuse(NoLine, read, 0, line)

    def test_a_sign_put_in_anywhere(self):
        line = "2=0>1"
        for place in range(len(line) + 1):
            for sign in " \t\n+-_,.x<":
                self.refuse(NoLine, read, 3, line[:place] + sign + line[place:])
                self.refuse(NoLine, read, 100000, line[:place] + sign + line[place:])

    def test_every_short_line(self):
        signs = "012>= "
        lines = [""]
        for length in range(5):
            for line in lines:
                self.read_or_refuse(line)
            lines = [line + sign for line in lines for sign in signs]

    def read_or_refuse(self, line):
        """Each sign is a number or stands between two of them, as there are no more than two choices here."""
        numbers = line[0::2]
        right = all(sign in "01" for sign in numbers) and all(sign in ">=" for sign in line[1::2])
        if line == "" or (right and len(line) % 2 == 1 and len(set(numbers)) == len(numbers)):
            answer = read(2, line)
            self.assertEqual(shown(answer), line)
            self.assertIs(is_ballot(2, answer), True)
        else:
            self.refuse(NoLine, read, 2, line)

    def test_what_is_no_ballot_is_not_written(self):
        for wrong in ([[]], [[0], []], [[], [0]], [[0, 0]], [[1], [1]], [[-1]], [[0], [-HUNDRED_FIGURES]]):
            self.refuse(NoBallot, shown, wrong)


class NothingIsKept(unittest.TestCase):
    def test_changing_an_answer_leaves_later_ones(self):
        for line in ("", "0", "2=0>1"):
            wanted = read(3, line)
            answer = read(3, line)
            for group in answer:
                group.append(99)
            answer.append([7])
            self.assertEqual(read(3, line), wanted)

    def test_changing_a_ballot_leaves_its_line(self):
        ballot = [[2, 0], [1]]
        line = shown(ballot)
        ballot[0].clear()
        ballot[0].extend([0, 2])
        self.assertEqual(line, "2=0>1")
        self.assertEqual(shown(ballot), "0=2>1")


if __name__ == "__main__":
    unittest.main()
