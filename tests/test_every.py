"""Every list of groups over a few numbers, held against the document's words, worked out in another way."""

import unittest
from itertools import permutations, product

from strongway.ballots import is_ballot, lifted
from strongway.tables import likings, links


def every_ballot(count):
    """Every ballot of so many choices, with every order within its groups."""
    answer = []
    for length in range(count + 1):
        for named in permutations(range(count), length):
            answer.extend(every_cut(list(named)))
    return answer


def every_cut(named):
    """Every list of groups, none empty, that gives these choices when it is read through."""
    if not named:
        return [[]]
    answer = []
    for size in range(1, len(named) + 1):
        for later in every_cut(named[size:]):
            answer.append([named[:size]] + later)
    return answer


def rank_list(count, ballot):
    ranks = [len(ballot)] * count
    for place, group in enumerate(ballot):
        for choice in group:
            ranks[choice] = place
    return ranks


def counted_likings(count, ballots):
    ranks = [rank_list(count, ballot) for ballot in ballots]
    return [[sum(rank[one] < rank[other] for rank in ranks) for other in range(count)] for one in range(count)]


def counted_links(count, ballots):
    table = counted_likings(count, ballots)
    answer = []
    for one in range(count):
        answer.append([table[one][other] if table[one][other] > table[other][one] else 0 for other in range(count)])
    return answer


def without(ballot, one):
    groups = [[choice for choice in group if choice != one] for group in ballot]
    return [group for group in groups if group]


class Ballots(unittest.TestCase):
    def test_is_ballot_of_every_short_list(self):
        groups = [list(group) for size in range(3) for group in product(range(-1, 4), repeat=size)]
        for count in range(4):
            ballots = every_ballot(count)
            for size in range(3):
                for made in product(groups, repeat=size):
                    self.assertIs(is_ballot(count, list(made)), list(made) in ballots, (count, made))

    def test_is_ballot_of_every_ballot(self):
        for count in range(5):
            for ballot in every_ballot(count):
                self.assertIs(is_ballot(count, ballot), True, (count, ballot))

    def test_lifted_keeps_the_others_and_the_order(self):
        for count in range(1, 5):
            for ballot in every_ballot(count):
                for one in range(count):
                    answer = lifted(count, ballot, one)
                    self.assertIs(is_ballot(count, answer), True, (ballot, one))
                    self.assertEqual(without(answer, one), without(ballot, one), (ballot, one))

    def test_lifted_moves_by_one_step(self):
        for count in range(1, 5):
            for ballot in every_ballot(count):
                for one in range(count):
                    self.check_step(count, ballot, one)

    def check_step(self, count, ballot, one):
        ranks = rank_list(count, ballot)
        now = rank_list(count, lifted(count, ballot, one))
        beside = [other for other in range(count) if other != one and ranks[other] == ranks[one]]
        nearest = [other for other in range(count) if ranks[other] == ranks[one] - 1]
        for other in range(count):
            if other == one:
                continue
            if other in beside:
                self.assertLess(now[one], now[other], (ballot, one))
            elif ranks[other] > ranks[one]:
                self.assertLess(now[one], now[other], (ballot, one))
            elif not beside and other in nearest:
                self.assertEqual(now[one], now[other], (ballot, one))
            else:
                self.assertGreater(now[one], now[other], (ballot, one))


class Tables(unittest.TestCase):
    def test_every_ballot_by_itself(self):
        for count in range(5):
            for ballot in every_ballot(count):
                self.assertEqual(likings(count, [ballot]), counted_likings(count, [ballot]), ballot)
                self.assertEqual(links(count, [ballot]), counted_links(count, [ballot]), ballot)

    def test_every_two_ballots_of_three_choices(self):
        ballots = every_ballot(3)
        for pair in product(ballots, repeat=2):
            self.assertEqual(likings(3, list(pair)), counted_likings(3, pair), pair)
            self.assertEqual(links(3, list(pair)), counted_links(3, pair), pair)

    def test_many_ballots_together(self):
        every = every_ballot(4)
        for start in range(0, len(every), 7):
            ballots = every[start::29]
            self.assertEqual(likings(4, ballots), counted_likings(4, ballots))
            self.assertEqual(links(4, ballots), counted_links(4, ballots))


if __name__ == "__main__":
    unittest.main()
