"""The urn and a day at it: each deed, refusals that change nothing, and that nothing is shared."""

import copy
import random
import unittest

from samples import CIRCLE, HUNDRED_FIGURES, NO_BALLOTS_OF_THREE, NO_CHOICES_OF_THREE, some_groups
from strongway.choosing import chosen
from strongway.errors import NoBallot, NoChoice
from strongway.urn import Urn, answers
from strongway.ways import strengths



class Urns(unittest.TestCase):
    def tells(self, urn, count, ballots):
        """The urn tells what the ballots say that are in it."""
        table = strengths(count, ballots)
        self.assertEqual([[urn.strength(one, other) for other in range(count)] for one in range(count)], table)
        self.assertEqual(urn.chosen(), chosen(count, ballots))

    def refuses_to_take_back(self, urn, *numbers):
        for number in numbers:
            with self.assertRaises(NoBallot) as caught:
                urn.back(number)
            self.assertIs(caught.exception.__class__, NoBallot)


class Casting(Urns):
    def test_empty(self):
        for count in range(4):
            self.tells(Urn(count), count, [])

    def test_no_choices(self):
        urn = Urn(0)
        self.assertEqual(urn.chosen(), [])
        self.assertEqual([urn.cast([]), urn.cast([])], [0, 1])
        self.assertEqual(urn.chosen(), [])
        self.assertEqual(urn.back(0), 1)
        for one in (-1, 0, 1):
            with self.assertRaises(NoChoice):
                urn.strength(one, one)

    def test_one_choice(self):
        urn = Urn(1)
        self.assertEqual((urn.chosen(), urn.strength(0, 0)), ([0], 0))
        self.assertEqual(urn.cast([[0]]), 0)
        self.assertEqual((urn.chosen(), urn.strength(0, 0)), ([0], 0))

    def test_numbers_from_nought_on(self):
        urn = Urn(3)
        self.assertEqual([urn.cast(ballot) for ballot in CIRCLE + [[]] + CIRCLE], list(range(7)))

    def test_the_same_ballot_several_times(self):
        urn = Urn(2)
        ballot = [[1]]
        self.assertEqual([urn.cast(ballot), urn.cast(ballot), urn.cast(ballot)], [0, 1, 2])
        self.assertEqual(urn.strength(1, 0), 3)
        self.assertEqual(urn.back(1), 2)
        self.assertEqual(urn.strength(1, 0), 2)
        self.refuses_to_take_back(urn, 1)
        self.assertEqual(urn.back(0), 1)
        self.assertEqual(urn.back(2), 0)
        self.assertEqual(urn.strength(1, 0), 0)

    def test_each_ballot_counts(self):
        urn = Urn(3)
        for many, ballot in enumerate(CIRCLE + [[[0]], [[2], [1]], [], [[1, 2]]]):
            self.assertEqual(urn.cast(ballot), many)
            self.tells(urn, 3, (CIRCLE + [[[0]], [[2], [1]], [], [[1, 2]]])[:many + 1])

    def test_none_given_again(self):
        urn = Urn(3)
        self.assertEqual([urn.cast([[0]]), urn.cast([[1]]), urn.cast([[2]])], [0, 1, 2])
        self.assertEqual(urn.back(2), 2)
        self.assertEqual(urn.cast([[2]]), 3)
        self.assertEqual(urn.back(0), 2)
        self.assertEqual(urn.cast([[0]]), 4)
        for number, left in ((1, 2), (4, 1), (3, 0)):
            self.assertEqual(urn.back(number), left)
        self.assertEqual(urn.cast([]), 5)
        self.refuses_to_take_back(urn, 0, 1, 2, 3, 4)
        self.assertEqual(urn.back(5), 0)

    def test_taken_back_is_as_if_it_had_not_come(self):
        for number in range(4):
            urn = Urn(3)
            ballots = CIRCLE + [[[1, 0]]]
            for ballot in ballots:
                urn.cast(ballot)
            self.tells(urn, 3, ballots)
            self.assertEqual(urn.back(number), 3)
            self.tells(urn, 3, ballots[:number] + ballots[number + 1:])

    def test_refused_numbers(self):
        urn = Urn(3)
        self.refuses_to_take_back(urn, 0, -1, 1, HUNDRED_FIGURES, -HUNDRED_FIGURES)
        urn.cast([[0]])
        urn.cast([[0], [1]])
        self.refuses_to_take_back(urn, -1, -2, 2, 3, HUNDRED_FIGURES, -HUNDRED_FIGURES)
        self.tells(urn, 3, [[[0]], [[0], [1]]])
        self.assertEqual(urn.back(0), 1)
        self.refuses_to_take_back(urn, 0, -1, 2)
        self.tells(urn, 3, [[[0], [1]]])
        self.assertEqual(urn.cast([]), 2)
        self.assertEqual(urn.back(1), 1)

    def test_refused_casts_change_nothing(self):
        urn = Urn(3)
        ballots = []
        for number, wrong in enumerate(NO_BALLOTS_OF_THREE):
            before = copy.deepcopy(wrong)
            with self.assertRaises(NoBallot) as caught:
                urn.cast(wrong)
            self.assertIs(caught.exception.__class__, NoBallot)
            self.assertEqual(wrong, before)
            self.tells(urn, 3, ballots)
            self.refuses_to_take_back(urn, number)
            self.assertEqual(urn.cast([[number % 3]]), number)
            ballots.append([[number % 3]])
        self.tells(urn, 3, ballots)

    def test_refused_casts_where_there_are_no_choices(self):
        urn = Urn(0)
        for wrong in ([[]], [[0]]):
            with self.assertRaises(NoBallot):
                urn.cast(wrong)
        self.assertEqual(urn.cast([]), 0)

    def test_refused_choices(self):
        urn = Urn(3)
        for ballot in ([], [[0]]):
            urn.cast(ballot)
            for wrong in NO_CHOICES_OF_THREE:
                for one, other in ((wrong, 0), (0, wrong), (wrong, wrong)):
                    with self.assertRaises(NoChoice) as caught:
                        urn.strength(one, other)
                    self.assertIs(caught.exception.__class__, NoChoice)
        self.tells(urn, 3, [[], [[0]]])

    def test_argument_names(self):
        urn = Urn(count=2)
        self.assertEqual(urn.cast(ballot=[[1]]), 0)
        self.assertEqual(urn.strength(one=1, other=0), 1)
        self.assertEqual(urn.back(number=0), 0)
        self.assertEqual(answers(count=2, deeds=[("chosen",)]), [[0, 1]])


class NothingIsShared(Urns):
    def test_a_list_that_is_changed_behind_its_cast(self):
        urn = Urn(3)
        ballot = [[0], [1, 2]]
        self.assertEqual(urn.cast(ballot), 0)
        ballot[0].append(1)
        ballot[1].clear()
        ballot.append([7])
        self.tells(urn, 3, [[[0], [1, 2]]])
        self.assertEqual(urn.cast([[2]]), 1)
        self.tells(urn, 3, [[[0], [1, 2]], [[2]]])
        self.assertEqual(urn.back(0), 1)
        self.tells(urn, 3, [[[2]]])

    def test_a_cast_leaves_the_list(self):
        urn = Urn(3)
        ballot = [[2, 0], [1]]
        urn.cast(ballot)
        self.assertEqual(ballot, [[2, 0], [1]])
        urn.back(0)
        self.assertEqual(ballot, [[2, 0], [1]])

    def test_an_answer_that_is_changed(self):
        urn = Urn(3)
        urn.cast([[1, 2]])
        told = urn.chosen()
        told.append(0)
        told[0] = 99
        self.tells(urn, 3, [[[1, 2]]])
        urn.cast([[0]])
        urn.chosen().clear()
        self.tells(urn, 3, [[[1, 2]], [[0]]])

    def test_an_answer_stays_as_it_was(self):
        urn = Urn(3)
        urn.cast([[1]])
        told = urn.chosen()
        urn.cast([[0, 2]])
        urn.cast([[0, 2]])
        self.assertEqual(urn.chosen(), [0, 2])
        self.assertEqual(told, [1])

    def test_two_urns_beside_one_another(self):
        here = Urn(3)
        there = Urn(2)
        self.assertEqual([here.cast([[0]]), here.cast([[2]]), there.cast([[1]])], [0, 1, 0])
        self.tells(here, 3, [[[0]], [[2]]])
        self.tells(there, 2, [[[1]]])
        self.refuses_to_take_back(there, 1)
        self.assertEqual(here.back(0), 1)
        self.tells(here, 3, [[[2]]])
        self.tells(there, 2, [[[1]]])
        self.assertEqual(there.cast([[0]]), 1)
        self.tells(Urn(3), 3, [])


class Days(unittest.TestCase):
    def day(self, count, deeds, wanted):
        before = copy.deepcopy(deeds)
        told = answers(count, deeds)
        self.assertIsInstance(told, list)
        self.assertEqual(told, wanted)
        self.assertEqual([answer.__class__ for answer in told], [answer.__class__ for answer in wanted])
        self.assertEqual(deeds, before)
        self.assertEqual(answers(count, deeds), wanted)

    def test_no_deeds(self):
        for count in range(4):
            self.day(count, [], [])

    def test_each_deed(self):
        deeds = [
            ("chosen",), ("strength", 0, 1), ("cast", [[1], [0]]), ("strength", 1, 0), ("strength", 0, 1), ("chosen",),
            ("cast", [[0], [2]]), ("cast", [[0]]), ("strength", 0, 1), ("chosen",), ("back", 1), ("chosen",),
            ("cast", []), ("back", 0), ("strength", 0, 1), ("chosen",), ("back", 3), ("back", 2), ("chosen",),
        ]
        wanted = [
            [0, 1, 2], 0, 0, 1, 0, [1],
            1, 2, 2, [0], 2, [0, 1],
            3, 2, 1, [0], 1, 0, [0, 1, 2],
        ]
        self.day(3, deeds, wanted)

    def test_a_choice_against_itself(self):
        self.day(2, [("strength", 1, 1), ("cast", [[1]]), ("strength", 1, 1)], [0, 0, 0])

    def test_no_choices(self):
        deeds = [("chosen",), ("cast", []), ("cast", [[0]]), ("strength", 0, 0), ("back", 0), ("chosen",)]
        self.day(0, deeds, [[], 0, "no ballot", "no choice", 0, []])

    def test_refused_casts(self):
        for wrong in NO_BALLOTS_OF_THREE:
            deeds = [("cast", wrong), ("cast", [[1]]), ("cast", wrong), ("chosen",), ("cast", []), ("back", 0)]
            self.day(3, deeds, ["no ballot", 0, "no ballot", [1], 1, 1])

    def test_refused_numbers(self):
        for wrong in (-1, 1, 2, HUNDRED_FIGURES, -HUNDRED_FIGURES):
            deeds = [("back", 0), ("back", wrong), ("cast", [[1]]), ("back", wrong), ("strength", 1, 0), ("back", 0)]
            self.day(3, deeds, ["no ballot", "no ballot", 0, "no ballot", 1, 0])
        deeds = [("cast", [[1]]), ("back", 0), ("back", 0), ("cast", [[2]]), ("back", 0), ("chosen",)]
        self.day(3, deeds, [0, 0, "no ballot", 1, "no ballot", [2]])

    def test_refused_choices(self):
        for wrong in NO_CHOICES_OF_THREE:
            deeds = [("strength", wrong, 0), ("cast", [[1]]), ("strength", 1, wrong), ("strength", wrong, wrong)]
            deeds.extend([("chosen",), ("cast", [])])
            self.day(3, deeds, ["no choice", 0, "no choice", "no choice", [1], 1])

    def test_answers_are_lists_of_their_own(self):
        deeds = [("cast", [[1, 2]]), ("chosen",), ("chosen",), ("cast", []), ("chosen",)]
        told = answers(3, deeds)
        told[1].append(99)
        self.assertEqual(told, [0, [1, 2, 99], [1, 2], 1, [1, 2]])
        self.assertEqual(answers(3, deeds), [0, [1, 2], [1, 2], 1, [1, 2]])
        self.assertEqual(deeds[0], ("cast", [[1, 2]]))

    def test_changing_the_deeds_leaves_the_answers(self):
        deeds = [("cast", [[1, 2]]), ("chosen",)]
        told = answers(3, deeds)
        deeds[0][1][0].clear()
        deeds.clear()
        self.assertEqual(told, [0, [1, 2]])

    def test_one_list_cast_several_times(self):
        ballot = [[1], [0]]
        deeds = [("cast", ballot), ("cast", ballot), ("strength", 1, 0), ("back", 0), ("strength", 1, 0)]
        self.day(2, deeds, [0, 1, 2, 1, 1])

    def test_all_that_comes_after_a_refusal_is_done(self):
        deeds = [("back", 5), ("cast", [[0, 9]]), ("strength", 0, 9), ("cast", [[0]]), ("chosen",)]
        self.day(2, deeds, ["no ballot", "no ballot", "no choice", 0, [0]])


def some_ballot(chance, count):
    """A ballot, or now and then a list that is none."""
    named = chance.sample(range(-1, count + 1), chance.randrange(count + 1))
    if chance.randrange(8) > 0:
        named = [choice for choice in named if 0 <= choice < count]
    return some_groups(chance, named)


def some_deed(chance, count, casts):
    kind = chance.choice(("cast", "cast", "back", "strength", "chosen"))
    if kind == "cast":
        return ("cast", some_ballot(chance, count))
    if kind == "back":
        return ("back", chance.randrange(-1, casts + 2))
    if kind == "strength":
        return ("strength", chance.randrange(-1, count + 1), chance.randrange(count))
    return ("chosen",)


def is_small_ballot(count, ballot):
    named = [choice for group in ballot for choice in group]
    return all(ballot) and len(set(named)) == len(named) and set(named) <= set(range(count))


class Desk:
    """A day worked out in another way: all ballots are kept, and all is told anew from those that are left."""

    def __init__(self, count):
        self.count = count
        self.slots = []

    def left(self):
        return [ballot for ballot in self.slots if ballot is not None]

    def answer(self, deed):
        if deed[0] == "cast":
            if not is_small_ballot(self.count, deed[1]):
                return "no ballot"
            self.slots.append(deed[1])
            return len(self.slots) - 1
        if deed[0] == "back":
            if not 0 <= deed[1] < len(self.slots) or self.slots[deed[1]] is None:
                return "no ballot"
            self.slots[deed[1]] = None
            return len(self.left())
        if deed[0] == "strength":
            if not (0 <= deed[1] < self.count and 0 <= deed[2] < self.count):
                return "no choice"
            return strengths(self.count, self.left())[deed[1]][deed[2]]
        return chosen(self.count, self.left())


class ManyDays(unittest.TestCase):
    def test_many_days(self):
        chance = random.Random(12)
        seen = []
        for day in range(150):
            count = chance.randrange(1, 6)
            deeds = [some_deed(chance, count, done // 2) for done in range(40)]
            desk = Desk(count)
            wanted = [desk.answer(deed) for deed in deeds]
            self.assertEqual(answers(count, deeds), wanted, (count, deeds))
            seen.extend(str(answer) for answer in wanted)
        self.assertIn("no ballot", seen)
        self.assertIn("no choice", seen)


if __name__ == "__main__":
    unittest.main()
