"""Strengths of ways, and the way and the wall that show each: ordinary ones, the edges and refusals."""

import copy
import unittest

from samples import CIRCLE, FORTY_FIVE, HUNDRED_FIGURES, NO_BALLOTS_OF_THREE, NO_CHOICES_OF_THREE, Refusing, rows
from strongway.errors import NoBallot, NoChoice
from strongway.tables import links
from strongway.ways import strengths, strongest

FORTY_FIVE_STRENGTHS = [
    [0, 28, 28, 30, 24],
    [25, 0, 28, 33, 24],
    [25, 29, 0, 29, 24],
    [25, 28, 28, 0, 24],
    [25, 28, 28, 31, 0],
]
# The likings of these are 4 from 0 to 1, 4 from 1 to 2, and 3 from 0 to 2, each against fewer.
ROUNDABOUT = rows(3, "012") + rows(1, "120", "201")


class Showing(unittest.TestCase):
    def check(self, count, ballots, one, other):
        """The way and the wall show the strength, whichever they are; the strength is told."""
        before = copy.deepcopy(ballots)
        answer = strongest(count, ballots, one, other)
        self.assertEqual(ballots, before)
        self.assertIsInstance(answer, tuple)
        self.assertEqual(len(answer), 3)
        strength, way, wall = answer
        self.assertEqual(strength, strengths(count, ballots)[one][other])
        table = links(count, ballots)
        self.check_way(table, strength, way, one, other)
        self.check_wall(table, strength, wall, one, other)
        return strength

    def check_way(self, table, strength, way, one, other):
        self.assertIsInstance(way, list)
        if strength == 0:
            self.assertEqual(way, [])
            return
        self.assertEqual((way[0], way[-1]), (one, other))
        self.assertEqual(len(set(way)), len(way))
        steps = [table[start][goal] for start, goal in zip(way, way[1:])]
        self.assertEqual(min(steps), strength)

    def check_wall(self, table, strength, wall, one, other):
        self.assertIsInstance(wall, list)
        self.assertEqual(wall, sorted(set(wall)))
        self.assertIn(one, wall)
        self.assertNotIn(other, wall)
        outside = [choice for choice in range(len(table)) if choice not in wall]
        for start in wall:
            self.assertIn(start, range(len(table)))
            for goal in outside:
                self.assertLessEqual(table[start][goal], strength)


class Strengths(Showing):
    def told(self, count, ballots, table):
        with self.subTest(count=count, ballots=ballots):
            before = copy.deepcopy(ballots)
            self.assertEqual(strengths(count, ballots), table)
            self.assertEqual(ballots, before)
            for one in range(count):
                for other in range(count):
                    if one != other:
                        self.assertEqual(self.check(count, ballots, one, other), table[one][other])

    def test_no_choices(self):
        for ballots in ([], [[]], [[], []]):
            self.told(0, ballots, [])

    def test_one_choice(self):
        for ballots in ([], [[]], [[[0]]], [[[0]], []]):
            self.told(1, ballots, [[0]])

    def test_no_ballots(self):
        self.told(3, [], [[0, 0, 0]] * 3)
        self.told(3, [[], []], [[0, 0, 0]] * 3)

    def test_all_alike(self):
        self.told(3, [[[0, 1, 2]], [[2, 1, 0]]], [[0, 0, 0]] * 3)
        self.told(2, [[[0], [1]], [[1], [0]]], [[0, 0], [0, 0]])

    def test_one_link(self):
        self.told(2, [[[1]]], [[0, 0], [1, 0]])
        self.told(2, rows(5, "01") + rows(4, "10"), [[0, 5], [0, 0]])

    def test_two_links_without_one_straight_there(self):
        ballots = CIRCLE + [[[0]]]
        self.assertEqual(links(3, ballots)[0][2], 0)
        self.told(3, ballots, [[0, 3, 2], [0, 0, 2], [0, 0, 0]])
        self.assertEqual(strongest(3, ballots, 0, 2), (2, [0, 1, 2], [0, 1]))

    def test_two_links_stronger_than_the_one_straight_there(self):
        self.assertEqual(links(3, ROUNDABOUT), [[0, 4, 3], [0, 0, 4], [0, 0, 0]])
        self.told(3, ROUNDABOUT, [[0, 4, 4], [0, 0, 4], [0, 0, 0]])
        self.assertEqual(strongest(3, ROUNDABOUT, 0, 2)[1], [0, 1, 2])

    def test_several_links_stronger_than_the_one_straight_there(self):
        ballots = rows(5, "0123") + rows(1, "1230", "2301", "3012")
        self.assertEqual(links(4, ballots), [[0, 7, 6, 5], [0, 0, 7, 6], [0, 0, 0, 7], [0, 0, 0, 0]])
        self.told(4, ballots, [[0, 7, 7, 7], [0, 0, 7, 7], [0, 0, 0, 7], [0, 0, 0, 0]])
        self.assertEqual(strongest(4, ballots, 0, 3)[1], [0, 1, 2, 3])

    def test_one_link_stronger_than_the_way_round(self):
        ballots = rows(3, "021") + rows(2, "102")
        self.assertEqual(links(3, ballots), [[0, 3, 5], [0, 0, 0], [0, 3, 0]])
        self.told(3, ballots, [[0, 3, 5], [0, 0, 0], [0, 3, 0]])

    def test_no_way(self):
        self.told(3, [[[2], [0], [1]]], [[0, 1, 0], [0, 0, 0], [1, 1, 0]])
        self.assertEqual(strongest(3, [[[2], [0], [1]]], 1, 2), (0, [], [1]))

    def test_no_way_out_of_a_circle(self):
        ballots = [ballot + [[3]] for ballot in CIRCLE]
        self.told(4, ballots, [[0, 2, 2, 3], [2, 0, 2, 3], [2, 2, 0, 3], [0, 0, 0, 0]])
        ballots = [[[3]] + ballot for ballot in CIRCLE]
        self.told(4, ballots, [[0, 2, 2, 0], [2, 0, 2, 0], [2, 2, 0, 0], [3, 3, 3, 0]])
        self.assertEqual(strongest(4, ballots, 1, 3), (0, [], [0, 1, 2]))

    def test_circle(self):
        self.told(3, CIRCLE, [[0, 2, 2], [2, 0, 2], [2, 2, 0]])
        self.told(3, CIRCLE * 7, [[0, 14, 14], [14, 0, 14], [14, 14, 0]])

    def test_strength_is_how_many_and_not_by_how_many_more(self):
        ballots = rows(6, "012") + rows(5, "120") + [[[2]]] * 4
        self.assertEqual(links(3, ballots), [[0, 6, 0], [0, 0, 11], [9, 0, 0]])
        self.told(3, ballots, [[0, 6, 6], [9, 0, 11], [9, 6, 0]])

    def test_forty_five_ballots(self):
        self.told(5, FORTY_FIVE, FORTY_FIVE_STRENGTHS)
        self.told(5, FORTY_FIVE[::-1], FORTY_FIVE_STRENGTHS)

    def test_kinds(self):
        for table in (strengths(2, []), strengths(3, CIRCLE), strengths(3, ROUNDABOUT)):
            self.assertIsInstance(table, list)
            for row in table:
                self.assertIsInstance(row, list)
                self.assertEqual([number.__class__ for number in row], [int] * len(table))
        self.assertEqual([part.__class__ for part in strongest(3, CIRCLE, 0, 1)], [int, list, list])
        self.assertEqual([part.__class__ for part in strongest(3, [], 0, 1)], [int, list, list])

    def test_argument_names(self):
        self.assertEqual(strengths(count=2, ballots=[[[1]]]), [[0, 0], [1, 0]])
        self.assertEqual(strongest(count=2, ballots=[[[1]]], one=1, other=0), (1, [1, 0], [1]))


class Refusals(Refusing):
    def test_no_ballot(self):
        self.refuse_wrong_ballots(NoBallot, strengths)
        self.refuse_wrong_ballots(NoBallot, strongest, 0, 1)

    def test_no_ballot_ahead_of_no_choice(self):
        for wrong in NO_BALLOTS_OF_THREE:
            for one, other in ((-1, 0), (0, 3), (HUNDRED_FIGURES, -1), (1, 1)):
                self.refuse(NoBallot, strongest, 3, [[[0]], wrong], one, other)

    def test_no_choice(self):
        for ballots in ([], CIRCLE):
            for wrong in NO_CHOICES_OF_THREE:
                self.refuse(NoChoice, strongest, 3, ballots, wrong, 0)
                self.refuse(NoChoice, strongest, 3, ballots, 2, wrong)
                self.refuse(NoChoice, strongest, 3, ballots, wrong, wrong)
                self.refuse(NoChoice, strongest, 3, ballots, wrong, -5)

    def test_no_choice_where_there_are_none(self):
        for wrong in (-1, 0, 1):
            self.refuse(NoChoice, strongest, 0, [], wrong, 0)

    def test_both_the_same(self):
        for count in range(1, 4):
            for ballots in ([], [[]], [[[0]]]):
                for one in range(count):
                    self.refuse(NoChoice, strongest, count, ballots, one, one)


if __name__ == "__main__":
    unittest.main()
