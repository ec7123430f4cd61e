"""The likings and the links: ordinary ones, the edges, refusals, and that nothing is kept."""

import copy
import unittest

from samples import Refusing, turned_ballots
from strongway.errors import NoBallot
from strongway.tables import likings, links

THREE = [[[0], [1], [2]], [[1, 2]], [[2], [0]], []]
THREE_LIKINGS = [[0, 2, 1], [1, 0, 1], [2, 1, 0]]
THREE_LINKS = [[0, 2, 0], [0, 0, 0], [2, 0, 0]]


class Tables(unittest.TestCase):
    def check(self, count, ballots, liked, linked):
        with self.subTest(count=count, ballots=ballots):
            before = copy.deepcopy(ballots)
            self.assertEqual(likings(count, ballots), liked)
            self.assertEqual(ballots, before)
            self.assertEqual(links(count, ballots), linked)
            self.assertEqual(ballots, before)

    def test_no_choices(self):
        for ballots in ([], [[]], [[], [], []]):
            self.check(0, ballots, [], [])

    def test_one_choice(self):
        for ballots in ([], [[]], [[[0]]], [[[0]], [], [[0]]]):
            self.check(1, ballots, [[0]], [[0]])

    def test_no_ballots(self):
        nought = [[0, 0, 0], [0, 0, 0], [0, 0, 0]]
        self.check(3, [], nought, nought)

    def test_empty_ballots(self):
        nought = [[0, 0, 0], [0, 0, 0], [0, 0, 0]]
        self.check(3, [[]], nought, nought)
        self.check(3, [[], [], []], nought, nought)

    def test_one_ballot(self):
        table = [[0, 0, 0], [1, 0, 1], [1, 0, 0]]
        self.check(3, [[[1], [2], [0]]], table, table)

    def test_several_ballots(self):
        self.check(3, THREE, THREE_LIKINGS, THREE_LINKS)

    def test_unnamed_alike_and_behind_all_named(self):
        table = [[0, 0, 0, 0], [1, 0, 0, 1], [1, 1, 0, 1], [0, 0, 0, 0]]
        self.check(4, [[[2], [1]]], table, table)

    def test_group_alike(self):
        table = [[0, 0, 1, 1], [0, 0, 1, 1], [0, 0, 0, 0], [0, 0, 0, 0]]
        self.check(4, [[[0, 1], [2, 3]]], table, table)
        self.check(4, [[[1, 0]]], table, table)

    def test_all_in_one_group_are_as_if_none_was_named(self):
        nought = [[0, 0], [0, 0]]
        self.check(2, [[[1, 0]], [[0, 1]]], nought, nought)

    def test_as_many_for_as_against(self):
        self.check(2, [[[0], [1]], [[1], [0]]], [[0, 1], [1, 0]], [[0, 0], [0, 0]])
        self.check(2, [[[0]], [[1]], [], [[0, 1]], [[1], [0]], [[0]]], [[0, 2], [2, 0]], [[0, 0], [0, 0]])

    def test_strength_is_how_many_and_not_by_how_many_more(self):
        self.check(2, [[[0]]] * 5 + [[[1]]] * 4, [[0, 5], [4, 0]], [[0, 5], [0, 0]])
        self.check(2, [[[0]]] * 2 + [[[1]]] * 7, [[0, 2], [7, 0]], [[0, 0], [7, 0]])

    def test_those_that_like_both_alike_do_not_count(self):
        self.check(2, [[[0]], [[0, 1]], [], [[1, 0]]], [[0, 1], [0, 0]], [[0, 1], [0, 0]])

    def test_order_within_groups_and_of_ballots_makes_no_difference(self):
        ballots = [[[3, 0, 2], [1]], [[1, 3]], [[2], [1, 0]]]
        turned = [[list(reversed(group)) for group in ballot] for ballot in reversed(ballots)]
        self.assertEqual(likings(4, turned), likings(4, ballots))
        self.assertEqual(links(4, turned), links(4, ballots))

    def test_rows_columns_and_nought_against_oneself(self):
        for count in range(6):
            ballots = [[[choice]] for choice in range(count)] + [[list(range(count))]] * (count > 0)
            for table in (likings(count, ballots), links(count, ballots)):
                self.assertIsInstance(table, list)
                self.assertEqual(len(table), count)
                for one in range(count):
                    self.assertIsInstance(table[one], list)
                    self.assertEqual(len(table[one]), count)
                    self.assertEqual(table[one][one], 0)

    def test_argument_names(self):
        self.assertEqual(likings(count=2, ballots=[[[1]]]), [[0, 0], [1, 0]])
        self.assertEqual(links(count=2, ballots=[[[1]]]), [[0, 0], [1, 0]])


class Refusals(Refusing):
    def test_no_ballot(self):
        self.refuse_wrong_ballots(NoBallot, likings)
        self.refuse_wrong_ballots(NoBallot, links)


class NothingIsKept(unittest.TestCase):
    def test_changing_what_was_handed_in_leaves_the_answers(self):
        ballots = copy.deepcopy(THREE)
        liked = likings(3, ballots)
        linked = links(3, ballots)
        ballots[0][0].append(2)
        ballots[1].clear()
        ballots.append([[0]])
        self.assertEqual(liked, THREE_LIKINGS)
        self.assertEqual(linked, THREE_LINKS)

    def test_later_answers_tell_of_the_changed_list(self):
        ballots = [[[0]]]
        self.assertEqual(likings(2, ballots), [[0, 1], [0, 0]])
        ballots[0][0].append(1)
        self.assertEqual(likings(2, ballots), [[0, 0], [0, 0]])
        ballots[0][0].pop(0)
        self.assertEqual(links(2, ballots), [[0, 0], [1, 0]])

    def test_changing_an_answer_leaves_all_else(self):
        for told, table in ((likings, THREE_LIKINGS), (links, THREE_LINKS)):
            with self.subTest(told=told.__name__):
                ballots = copy.deepcopy(THREE)
                answer = told(3, ballots)
                answer[0][1] = 99
                answer[2].append(99)
                answer.pop(1)
                self.assertEqual(ballots, THREE)
                self.assertEqual(told(3, ballots), table)

    def test_rows_are_lists_of_their_own(self):
        for told in (likings, links):
            for ballots in ([], [[]], THREE):
                answer = told(3, ballots)
                others = copy.deepcopy(answer[1:])
                answer[0][0] = 99
                self.assertEqual(answer[1:], others)

    def test_one_list_as_several_ballots(self):
        ballot = [[1], [0]]
        ballots = [ballot, ballot, ballot]
        self.assertEqual(likings(3, ballots), [[0, 0, 3], [3, 0, 3], [0, 0, 0]])
        self.assertEqual(ballot, [[1], [0]])


class Size(unittest.TestCase):
    def check(self, count, rounds):
        ballots = turned_ballots(count, count * rounds)
        liked = likings(count, ballots)
        linked = links(count, ballots)
        for one in range(count):
            for other in range(count):
                there = (count - (other - one) % count) * rounds if one != other else 0
                back = (count - (one - other) % count) * rounds if one != other else 0
                self.assertEqual(liked[one][other], there)
                self.assertEqual(linked[one][other], there if there > back else 0)

    def test_hundred_choices_and_a_thousand_ballots(self):
        self.check(100, 10)

    def test_somewhat_beyond(self):
        self.check(110, 10)

    def test_thousand_ballots_the_last_none(self):
        ballots = turned_ballots(100, 999) + [[[0], [100]]]
        for told in (likings, links):
            with self.assertRaises(NoBallot):
                told(100, ballots)


if __name__ == "__main__":
    unittest.main()
