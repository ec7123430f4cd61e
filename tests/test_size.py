"""Inputs of the size that the document names, and somewhat beyond it."""

import unittest

from samples import turned_ballots
from strongway.choosing import chosen, is_ahead, layers
from strongway.errors import NoBallot
from strongway.tables import links
from strongway.urn import answers
from strongway.ways import strengths, strongest


def straight_ballots(count, many):
    """As many ballots turned as not turned, and so a straight order whose neighbours have the strongest links."""
    return turned_ballots(count, many // 2) + turned_ballots(count, 1) * (many - many // 2)


class Turned(unittest.TestCase):
    def check(self, count, rounds):
        ballots = turned_ballots(count, count * rounds)
        # Only links to the next choice are this strong, so each strongest way goes through all choices between.
        strength = (count - 1) * rounds
        table = strengths(count, ballots)
        for one in range(count):
            self.assertEqual(table[one], [strength if other != one else 0 for other in range(count)])
        self.assertEqual(strongest(count, ballots, 0, count - 1)[:2], (strength, list(range(count))))
        self.assertIs(is_ahead(count, ballots, 0, 1), False)
        self.assertEqual(chosen(count, ballots), list(range(count)))
        self.assertEqual(layers(count, ballots), [list(range(count))])

    def test_hundred_choices_and_a_thousand_ballots(self):
        self.check(100, 10)

    def test_somewhat_beyond(self):
        self.check(110, 10)


class Straight(unittest.TestCase):
    def check(self, count, many):
        ballots = straight_ballots(count, many)
        linked = links(count, ballots)
        # The link from one to the next is passed over by the ballots alone that begin with the next.
        steps = [linked[one][one + 1] for one in range(count - 1)]
        self.assertEqual(steps, [many - sum(ballot[0] == [one + 1] for ballot in ballots) for one in range(count - 1)])
        table = strengths(count, ballots)
        for one in range(count):
            forth = [min(steps[one:other]) for other in range(one + 1, count)]
            self.assertEqual(table[one], [0] * (one + 1) + forth)
        strength, way, wall = strongest(count, ballots, 0, count - 1)
        self.assertEqual(strength, min(steps))
        self.assertEqual(way, list(range(count)))
        self.assertEqual(strongest(count, ballots, count - 1, 0), (0, [], [count - 1]))
        self.assertIs(is_ahead(count, ballots, 0, count - 1), True)
        self.assertEqual(chosen(count, ballots), [0])
        self.assertEqual(layers(count, ballots), [[one] for one in range(count)])

    def test_hundred_choices_and_a_thousand_ballots(self):
        self.check(100, 1000)


class Refused(unittest.TestCase):
    def test_thousand_ballots_the_last_none(self):
        ballots = turned_ballots(100, 999) + [[[0], [100]]]
        for told in (strengths, chosen, layers):
            with self.assertRaises(NoBallot):
                told(100, ballots)
        for told in (strongest, is_ahead):
            with self.assertRaises(NoBallot):
                told(100, ballots, 0, 100)


class Days(unittest.TestCase):
    def test_a_day_of_casts_and_questions(self):
        ballots = turned_ballots(100, 500)
        deeds = [deed for ballot in ballots for deed in (("cast", ballot), ("chosen",))]
        told = answers(100, deeds)
        self.assertEqual(told[::2], list(range(500)))
        for many in (1, 2, 3, 99, 100, 101, 250, 499, 500):
            self.assertEqual(told[2 * many - 1], chosen(100, ballots[:many]), many)

    def test_a_day_of_questions_about_strengths(self):
        ballots = straight_ballots(100, 100)
        deeds = [("cast", ballot) for ballot in ballots] + [("strength", one, 99) for one in range(100)] * 9
        table = strengths(100, ballots)
        self.assertEqual(answers(100, deeds), list(range(100)) + [table[one][99] for one in range(100)] * 9)

    def test_a_day_of_coming_and_going(self):
        ballots = straight_ballots(100, 333)
        deeds = [("cast", ballot) for ballot in ballots]
        deeds.extend([deed for number in range(333) for deed in (("back", number), ("strength", 0, 99))])
        told = answers(100, deeds + [("chosen",)])
        self.assertEqual(told[:333], list(range(333)))
        self.assertEqual(told[333:-1:2], list(range(332, -1, -1)))
        for gone in (1, 2, 100, 166, 167, 300, 332, 333):
            self.assertEqual(told[332 + 2 * gone], strengths(100, ballots[gone:])[0][99], gone)
        self.assertEqual(told[-1], list(range(100)))

    def test_a_day_of_a_thousand_casts(self):
        deeds = [("cast", ballot) for ballot in turned_ballots(100, 1000)]
        deeds.extend([("cast", [[0], [0]]), ("chosen",), ("back", 999), ("back", 1000), ("cast", [])])
        self.assertEqual(answers(100, deeds)[1000:], ["no ballot", list(range(100)), 999, "no ballot", 1000])


if __name__ == "__main__":
    unittest.main()
