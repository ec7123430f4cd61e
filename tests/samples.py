"""What several tests draw on: ballots, what is none, and how a refusal is looked at."""

import copy
import unittest

HUNDRED_FIGURES = 10 ** 99
NO_CHOICES_OF_THREE = (-1, -3, 3, 4, HUNDRED_FIGURES, -HUNDRED_FIGURES)
NO_BALLOTS_OF_THREE = (
    [[]],
    [[], [0]],
    [[0], [], [1]],
    [[0], []],
    [[0, 0]],
    [[0, 1, 0]],
    [[0], [0]],
    [[0], [1], [2], [0]],
    [[0, 1], [2, 1]],
    [[-1]],
    [[0], [1, -1]],
    [[3]],
    [[0, 3]],
    [[0], [1], [2], [3]],
    [[HUNDRED_FIGURES]],
    [[0, HUNDRED_FIGURES]],
    [[-HUNDRED_FIGURES]],
    [[0], [-HUNDRED_FIGURES]],
)
CIRCLE = [[[0], [1], [2]], [[1], [2], [0]], [[2], [0], [1]]]


def rows(times, *orders):
    """Ballots that name the choices one by one in the order of the figures, each so many times."""
    return [[[int(figure)] for figure in order] for order in orders for time in range(times)]


FORTY_FIVE = (
    rows(5, "02143", "03421") + rows(8, "14302", "41032") + rows(3, "20143") + rows(7, "20413", "32410")
    + rows(2, "21034")
)


def turned_ballots(count, many):
    """Ballots that name all choices, one by one, each beginning one choice later than the ballot ahead of it."""
    return [[[(turn + step) % count] for step in range(count)] for turn in range(many)]


def some_groups(chance, named):
    """These choices in groups, cut by chance."""
    groups = []
    for choice in named:
        if groups and chance.randrange(3) == 0:
            groups[-1].append(choice)
        else:
            groups.append([choice])
    return groups


class Refusing(unittest.TestCase):
    def refuse(self, error, told, *given):
        """The call is refused with this very error, and what was handed in stays as it was."""
        before = copy.deepcopy(given)
        with self.subTest(told=told.__name__, given=given):
            with self.assertRaises(error) as caught:
                told(*given)
            self.assertIs(caught.exception.__class__, error)
            self.assertEqual(given, before)

    def refuse_wrong_ballots(self, error, told, *asked):
        """A list that is no ballot is refused wherever it stands among the ballots."""
        for wrong in NO_BALLOTS_OF_THREE:
            for ballots in ([wrong], [wrong, [[0]], [[1, 2]]], [[[0]], wrong, []], [[[0]], [[1, 2]], wrong]):
                self.refuse(error, told, 3, ballots, *asked)
        for wrong in ([[]], [[0]], [[-1]]):
            self.refuse(error, told, 0, [wrong], *asked)
            self.refuse(error, told, 0, [[], wrong, []], *asked)
        for wrong in ([[]], [[1]], [[0, 0]], [[0], [0]]):
            self.refuse(error, told, 1, [[[0]], wrong], *asked)
