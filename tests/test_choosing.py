"""Who is ahead, who may be chosen, and the layers: ordinary ones, the edges and refusals."""

import copy
import unittest

from samples import CIRCLE, FORTY_FIVE, HUNDRED_FIGURES, NO_BALLOTS_OF_THREE, NO_CHOICES_OF_THREE, Refusing, rows
from strongway.choosing import chosen, is_ahead, layers
from strongway.errors import NoBallot, NoChoice
from strongway.ways import strengths


class Choosing(unittest.TestCase):
    def told(self, count, ballots, wanted):
        with self.subTest(count=count, ballots=ballots):
            before = copy.deepcopy(ballots)
            self.assertEqual(layers(count, ballots), wanted)
            self.assertEqual(chosen(count, ballots), wanted[0] if wanted else [])
            self.assertEqual(ballots, before)
            self.check_layers(count, ballots, wanted)

    def check_layers(self, count, ballots, wanted):
        table = strengths(count, ballots)
        place = {choice: layer for layer, choices in enumerate(wanted) for choice in choices}
        self.assertEqual(sorted(place), list(range(count)))
        self.assertEqual(sum(len(layer) for layer in wanted), count)
        for layer in wanted:
            self.assertEqual(layer, sorted(layer))
        for one in range(count):
            for other in range(count):
                answer = is_ahead(count, ballots, one, other)
                self.assertIs(answer, table[one][other] > table[other][one])
                if answer:
                    self.assertLess(place[one], place[other])

    def test_no_choices(self):
        for ballots in ([], [[]], [[], []]):
            self.told(0, ballots, [])

    def test_one_choice(self):
        for ballots in ([], [[]], [[[0]]]):
            self.told(1, ballots, [[0]])

    def test_all_alike(self):
        for ballots in ([], [[]], [[[0, 1, 2]]], [[[2, 1]], [[0]]], [[[2], [1], [0]], [[0], [1], [2]]]):
            self.told(3, ballots, [[0, 1, 2]])

    def test_one_ahead_of_all_others(self):
        self.told(3, [[[1]]], [[1], [0, 2]])
        self.told(3, [[[2], [0, 1]], [[2]]], [[2], [0, 1]])

    def test_one_behind_all_others(self):
        self.told(3, [[[2, 0]]], [[0, 2], [1]])

    def test_one_after_the_other(self):
        self.told(4, [[[3], [0], [2]]], [[3], [0], [2], [1]])

    def test_circle(self):
        self.told(3, CIRCLE, [[0, 1, 2]])

    def test_circle_between_a_first_and_a_last(self):
        self.told(5, [[[3]] + ballot + [[4]] for ballot in CIRCLE], [[3], [0, 1, 2], [4]])

    def test_circle_with_a_weakest_link(self):
        self.told(3, CIRCLE + rows(1, "012"), [[0], [1], [2]])
        self.told(3, CIRCLE * 2 + rows(1, "120"), [[1], [2], [0]])

    def test_one_that_is_neither_ahead_nor_behind(self):
        self.told(4, rows(1, "3012", "0123"), [[0, 3], [1], [2]])
        self.told(4, rows(1, "0213", "3021"), [[0, 3], [2], [1]])

    def test_some_alike_within_layers(self):
        self.told(5, [[[4, 1], [0, 3]]], [[1, 4], [0, 3], [2]])

    def test_forty_five_ballots(self):
        self.told(5, FORTY_FIVE, [[4], [0], [2], [1], [3]])
        self.told(5, FORTY_FIVE[::-1], [[4], [0], [2], [1], [3]])

    def test_kinds(self):
        for count, ballots in ((0, []), (1, []), (3, CIRCLE), (3, [[[1]]])):
            self.assertIsInstance(chosen(count, ballots), list)
            answer = layers(count, ballots)
            self.assertIsInstance(answer, list)
            for layer in answer:
                self.assertIsInstance(layer, list)
                self.assertGreater(len(layer), 0)

    def test_argument_names(self):
        self.assertEqual(chosen(count=2, ballots=[[[1]]]), [1])
        self.assertEqual(layers(count=2, ballots=[[[1]]]), [[1], [0]])
        self.assertIs(is_ahead(count=2, ballots=[[[1]]], one=1, other=0), True)


class Ahead(unittest.TestCase):
    def test_both_ways_round(self):
        self.assertIs(is_ahead(2, [[[1]]], 1, 0), True)
        self.assertIs(is_ahead(2, [[[1]]], 0, 1), False)

    def test_equal_strengths(self):
        for ballots in ([], CIRCLE, CIRCLE * 3, [[[0, 1, 2]]]):
            for one in range(3):
                for other in range(3):
                    self.assertIs(is_ahead(3, ballots, one, other), False)

    def test_the_same_choice_twice(self):
        for ballots in ([], CIRCLE, [[[1], [0]]], CIRCLE + rows(2, "012")):
            for one in range(3):
                self.assertIs(is_ahead(3, ballots, one, one), False)

    def test_by_ways_and_not_by_links_alone(self):
        # A link leads from 2 to 0, but the way from 0 over 1 to 2 is stronger.
        ballots = rows(4, "012") + rows(3, "120") + rows(2, "201")
        self.assertEqual(strengths(3, ballots), [[0, 6, 6], [5, 0, 7], [5, 5, 0]])
        self.assertIs(is_ahead(3, ballots, 0, 2), True)
        self.assertIs(is_ahead(3, ballots, 2, 0), False)


class Refusals(Refusing):
    def test_no_ballot(self):
        self.refuse_wrong_ballots(NoBallot, chosen)
        self.refuse_wrong_ballots(NoBallot, layers)
        self.refuse_wrong_ballots(NoBallot, is_ahead, 0, 1)
        self.refuse_wrong_ballots(NoBallot, is_ahead, 0, 0)

    def test_no_ballot_ahead_of_no_choice(self):
        for wrong in NO_BALLOTS_OF_THREE:
            for one, other in ((-1, 0), (0, 3), (HUNDRED_FIGURES, -1)):
                self.refuse(NoBallot, is_ahead, 3, [[[0]], wrong], one, other)

    def test_no_choice(self):
        for ballots in ([], CIRCLE):
            for wrong in NO_CHOICES_OF_THREE:
                self.refuse(NoChoice, is_ahead, 3, ballots, wrong, 0)
                self.refuse(NoChoice, is_ahead, 3, ballots, 2, wrong)
                self.refuse(NoChoice, is_ahead, 3, ballots, wrong, wrong)

    def test_no_choice_where_there_are_none(self):
        for wrong in (-1, 0, 1):
            self.refuse(NoChoice, is_ahead, 0, [], wrong, wrong)


if __name__ == "__main__":
    unittest.main()
