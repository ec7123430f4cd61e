"""Which lists are ballots, how a choice is lifted, and what is refused."""

import copy
import unittest

from samples import HUNDRED_FIGURES, NO_BALLOTS_OF_THREE, NO_CHOICES_OF_THREE, Refusing
from strongway.ballots import is_ballot, lifted
from strongway.errors import NoBallot, NoChoice


class IsBallot(unittest.TestCase):
    def check(self, count, ballot, answer):
        with self.subTest(count=count, ballot=ballot):
            self.assertIs(is_ballot(count, ballot), answer)

    def test_without_choices_the_empty_list_alone(self):
        self.check(0, [], True)
        for ballot in ([[]], [[0]], [[-1]], [[HUNDRED_FIGURES]]):
            self.check(0, ballot, False)

    def test_empty_list(self):
        for count in (0, 1, 2, 100):
            self.check(count, [], True)

    def test_one_choice(self):
        self.check(1, [[0]], True)
        for ballot in ([[]], [[0, 0]], [[0], [0]], [[1]], [[-1]], [[0], [1]]):
            self.check(1, ballot, False)

    def test_all_some_or_one_named(self):
        for ballot in ([[0], [1], [2]], [[2], [1], [0]], [[1], [2]], [[2]], [[0]]):
            self.check(3, ballot, True)

    def test_group_of_several_in_any_order(self):
        for ballot in ([[0, 1, 2]], [[2, 1, 0]], [[1, 0, 2]], [[2, 0], [1]], [[0, 2], [1]], [[1], [2, 0]]):
            self.check(3, ballot, True)

    def test_what_is_none(self):
        for ballot in NO_BALLOTS_OF_THREE:
            self.check(3, ballot, False)

    def test_last_choice_and_count(self):
        for count in (1, 2, 3, 100, 101):
            self.check(count, [[count - 1]], True)
            self.check(count, [[count]], False)

    def test_argument_names(self):
        self.assertIs(is_ballot(count=2, ballot=[[1, 0]]), True)


class Lifted(unittest.TestCase):
    def check(self, count, ballot, one, answer):
        with self.subTest(count=count, ballot=ballot, one=one):
            before = copy.deepcopy(ballot)
            self.assertEqual(lifted(count, ballot, one), answer)
            self.assertEqual(ballot, before)

    def test_with_others_in_the_first_group(self):
        self.check(6, [[4, 1, 3], [5, 0]], 4, [[4], [1, 3], [5, 0]])
        self.check(6, [[4, 1, 3], [5, 0]], 1, [[1], [4, 3], [5, 0]])
        self.check(6, [[4, 1, 3], [5, 0]], 3, [[3], [4, 1], [5, 0]])

    def test_with_others_in_a_middle_group(self):
        self.check(6, [[5, 0], [4, 1, 3], [2]], 4, [[5, 0], [4], [1, 3], [2]])
        self.check(6, [[5, 0], [4, 1, 3], [2]], 1, [[5, 0], [1], [4, 3], [2]])
        self.check(6, [[5, 0], [4, 1, 3], [2]], 3, [[5, 0], [3], [4, 1], [2]])

    def test_with_others_in_the_last_group(self):
        self.check(6, [[2], [4, 1, 3]], 4, [[2], [4], [1, 3]])
        self.check(6, [[2], [4, 1, 3]], 1, [[2], [1], [4, 3]])
        self.check(6, [[2], [4, 1, 3]], 3, [[2], [3], [4, 1]])

    def test_with_one_other(self):
        self.check(2, [[1, 0]], 0, [[0], [1]])
        self.check(2, [[1, 0]], 1, [[1], [0]])

    def test_unnamed_with_other_unnamed(self):
        self.check(4, [[3, 1]], 0, [[3, 1], [0]])
        self.check(4, [[3], [1]], 2, [[3], [1], [2]])
        self.check(5, [[3], [1]], 2, [[3], [1], [2]])

    def test_unnamed_with_others_on_the_empty_ballot(self):
        self.check(2, [], 0, [[0]])
        self.check(2, [], 1, [[1]])
        self.check(100, [], 99, [[99]])

    def test_alone_with_a_group_ahead(self):
        self.check(4, [[3], [1]], 1, [[3, 1]])
        self.check(5, [[3, 0], [1], [4, 2]], 1, [[3, 0, 1], [4, 2]])
        self.check(5, [[4], [3, 0], [1]], 1, [[4], [3, 0, 1]])
        self.check(5, [[4], [3], [2], [1], [0]], 2, [[4], [3, 2], [1], [0]])

    def test_only_unnamed_with_a_group_ahead(self):
        self.check(2, [[1]], 0, [[1, 0]])
        self.check(4, [[3], [2, 0]], 1, [[3], [2, 0, 1]])
        self.check(3, [[2], [1]], 0, [[2], [1, 0]])

    def test_alone_in_the_first_group(self):
        self.check(3, [[1]], 1, [[1]])
        self.check(3, [[1], [2, 0]], 1, [[1], [2, 0]])
        self.check(1, [[0]], 0, [[0]])

    def test_only_choice_unnamed_on_the_empty_ballot(self):
        self.check(1, [], 0, [])

    def test_lifted_again_and_again_to_the_top(self):
        steps = [[[2, 1], [3]], [[2, 1], [3], [0]], [[2, 1], [3, 0]], [[2, 1], [0], [3]], [[2, 1, 0], [3]],
                 [[0], [2, 1], [3]], [[0], [2, 1], [3]]]
        for before, behind in zip(steps, steps[1:]):
            self.check(5, before, 0, behind)

    def test_argument_names(self):
        self.assertEqual(lifted(count=2, ballot=[[1, 0]], one=0), [[0], [1]])


class LiftedRefuses(Refusing):
    def test_no_ballot(self):
        for ballot in NO_BALLOTS_OF_THREE:
            for one in range(3):
                self.refuse(NoBallot, lifted, 3, ballot, one)

    def test_no_ballot_ahead_of_no_choice(self):
        for ballot in NO_BALLOTS_OF_THREE:
            for one in (-1, 3, HUNDRED_FIGURES):
                self.refuse(NoBallot, lifted, 3, ballot, one)

    def test_no_ballot_ahead_of_no_choice_without_choices(self):
        for one in (-1, 0, HUNDRED_FIGURES):
            self.refuse(NoBallot, lifted, 0, [[]], one)
            self.refuse(NoBallot, lifted, 0, [[0]], one)

    def test_no_choice(self):
        for ballot in ([], [[0]], [[0, 1], [2]], [[2], [1]]):
            for one in NO_CHOICES_OF_THREE:
                self.refuse(NoChoice, lifted, 3, ballot, one)

    def test_without_choices_every_number_is_none(self):
        for one in (-1, 0, 1, HUNDRED_FIGURES, -HUNDRED_FIGURES):
            self.refuse(NoChoice, lifted, 0, [], one)


class LiftedKeepsNothing(unittest.TestCase):
    CASES = (
        (4, [[3, 1], [0]], 3),
        (4, [[3, 1], [0]], 2),
        (5, [[3, 1], [0]], 2),
        (4, [[3, 1], [0]], 0),
        (4, [[3], [1, 0]], 3),
        (1, [], 0),
    )

    def test_changing_what_was_handed_in_leaves_the_answer(self):
        for count, given, one in self.CASES:
            with self.subTest(ballot=given, one=one):
                ballot = copy.deepcopy(given)
                answer = lifted(count, ballot, one)
                told = copy.deepcopy(answer)
                spoil(ballot)
                self.assertEqual(answer, told)

    def test_changing_the_answer_leaves_all_else(self):
        for count, given, one in self.CASES:
            with self.subTest(ballot=given, one=one):
                ballot = copy.deepcopy(given)
                answer = lifted(count, ballot, one)
                told = copy.deepcopy(answer)
                spoil(answer)
                self.assertEqual(ballot, given)
                self.assertEqual(lifted(count, ballot, one), told)

    def test_is_ballot_changes_nothing(self):
        for given in NO_BALLOTS_OF_THREE + ([], [[2, 0], [1]]):
            ballot = copy.deepcopy(given)
            is_ballot(3, ballot)
            self.assertEqual(ballot, given)

    def test_is_ballot_tells_of_the_list_as_it_is_now(self):
        ballot = [[0], [1]]
        self.assertIs(is_ballot(2, ballot), True)
        ballot[1].append(0)
        self.assertIs(is_ballot(2, ballot), False)
        ballot[1].pop()
        self.assertIs(is_ballot(2, ballot), True)


def spoil(ballot):
    for group in ballot:
        group.append(77)
    ballot.append([88])


class Size(unittest.TestCase):
    def test_hundred_choices_and_beyond(self):
        for count in (100, 130):
            ballot = [[choice] for choice in range(count)]
            self.assertIs(is_ballot(count, ballot), True)
            self.assertIs(is_ballot(count - 1, ballot), False)
            self.assertEqual(lifted(count, ballot, count - 1), ballot[:-2] + [[count - 2, count - 1]])

    def test_hundred_choices_in_one_group(self):
        group = list(range(100))
        self.assertEqual(lifted(100, [group], 50), [[50], group[:50] + group[51:]])

    def test_more_figures_than_a_hundred(self):
        self.assertIs(is_ballot(3, [[10 ** 120]]), False)
        with self.assertRaises(NoChoice):
            lifted(3, [[0]], 10 ** 120)


if __name__ == "__main__":
    unittest.main()
