"""Nothing that is handed in is changed or kept, and an answer that was told stays as it was."""

import copy
import unittest

from strongway.ballots import is_ballot, lifted
from strongway.choosing import chosen, is_ahead, layers
from strongway.notes import read, shown
from strongway.tables import likings, links
from strongway.urn import Urn, answers
from strongway.ways import strengths, strongest

BALLOTS = [[[0], [1], [2, 3]], [[1], [2], [3, 0]], [[2], [3], [0]], [[3, 1]], []]
DEEDS = [("cast", BALLOTS[0]), ("chosen",), ("cast", BALLOTS[3]), ("strength", 1, 2), ("back", 0), ("chosen",)]
CALLS = (
    (is_ballot, (4, BALLOTS[0])),
    (lifted, (4, BALLOTS[0], 1)),
    (lifted, (4, BALLOTS[0], 0)),
    (lifted, (4, BALLOTS[0], 3)),
    (likings, (4, BALLOTS)),
    (links, (4, BALLOTS)),
    (strengths, (4, BALLOTS)),
    (strongest, (4, BALLOTS, 0, 3)),
    (strongest, (4, BALLOTS, 3, 0)),
    (strongest, (4, [], 3, 0)),
    (is_ahead, (4, BALLOTS, 0, 1)),
    (chosen, (4, BALLOTS)),
    (chosen, (4, [])),
    (layers, (4, BALLOTS)),
    (layers, (4, [])),
    (answers, (4, DEEDS)),
    (shown, (BALLOTS[0],)),
    (read, (4, "3=0>2")),
)


def spoil(value):
    """Changes every list that a value holds."""
    if isinstance(value, (list, tuple)):
        for part in value:
            spoil(part)
    if isinstance(value, list):
        value.reverse()
        value.append(77)


class Kept(unittest.TestCase):
    def calls(self):
        for told, given in CALLS:
            with self.subTest(told=told.__name__, given=given):
                given = copy.deepcopy(given)
                yield told, given, copy.deepcopy(given), told(*copy.deepcopy(given))

    def test_what_is_handed_in_is_the_same_behind_the_call(self):
        for told, given, before, wanted in self.calls():
            self.assertEqual(told(*given), wanted)
            self.assertEqual(given, before)

    def test_changing_what_was_handed_in_leaves_the_answer(self):
        for told, given, before, wanted in self.calls():
            answer = told(*given)
            spoil(given)
            self.assertEqual(answer, wanted)
            self.assertEqual(told(*before), wanted)

    def test_changing_an_answer_leaves_all_else(self):
        for told, given, before, wanted in self.calls():
            earlier = told(*given)
            spoil(told(*given))
            self.assertEqual(given, before)
            self.assertEqual(told(*given), wanted)
            self.assertEqual(earlier, wanted)

    def test_lists_within_an_answer_are_not_shared(self):
        for told, given, before, wanted in self.calls():
            answer = told(*given)
            if not isinstance(answer, (list, tuple)):
                continue
            for place, part in enumerate(answer):
                if isinstance(part, list):
                    part.append(77)
                    self.assertEqual(list(answer[place + 1:]), list(wanted[place + 1:]))

    def test_the_same_answer_each_time(self):
        for told, given, before, wanted in self.calls():
            for time in range(3):
                self.assertEqual(told(*given), wanted)

    def test_urn(self):
        urn = Urn(4)
        ballots = copy.deepcopy(BALLOTS)
        for ballot in ballots:
            urn.cast(ballot)
        self.assertEqual(ballots, BALLOTS)
        told = urn.chosen()
        spoil(ballots)
        spoil(urn.chosen())
        self.assertEqual(told, chosen(4, BALLOTS))
        self.assertEqual(urn.chosen(), chosen(4, BALLOTS))
        urn.back(4)
        for number in range(4):
            urn.back(number)
            left = BALLOTS[number + 1:]
            self.assertEqual(urn.chosen(), chosen(4, left))
            self.assertEqual(urn.strength(3, 0), strengths(4, left)[3][0])


if __name__ == "__main__":
    unittest.main()
