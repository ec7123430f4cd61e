"""Every list of groups over a few numbers, held against the document's words, worked out in another way."""

import random
import unittest
from itertools import combinations, combinations_with_replacement, permutations, product

from strongway.ballots import is_ballot, lifted
from strongway.choosing import chosen, is_ahead, layers
from strongway.notes import read, shown
from strongway.tables import likings, links
from strongway.ways import strengths, strongest


def every_ballot(count):
    """Every ballot of so many choices, with every order within its groups."""
    answer = []
    for length in range(count + 1):
        for named in permutations(range(count), length):
            answer.extend(every_cut(list(named)))
    return answer


def every_cut(named):
    """Every list of groups, none empty, that gives these choices when it is read through."""
    if not named:
        return [[]]
    answer = []
    for size in range(1, len(named) + 1):
        for later in every_cut(named[size:]):
            answer.append([named[:size]] + later)
    return answer


def rank_list(count, ballot):
    ranks = [len(ballot)] * count
    for place, group in enumerate(ballot):
        for choice in group:
            ranks[choice] = place
    return ranks


def counted_likings(count, ballots):
    ranks = [rank_list(count, ballot) for ballot in ballots]
    return [[sum(rank[one] < rank[other] for rank in ranks) for other in range(count)] for one in range(count)]


def counted_links(count, ballots):
    table = counted_likings(count, ballots)
    answer = []
    for one in range(count):
        answer.append([table[one][other] if table[one][other] > table[other][one] else 0 for other in range(count)])
    return answer


def every_way(count, one, other):
    between = [choice for choice in range(count) if choice not in (one, other)]
    for length in range(len(between) + 1):
        for middle in permutations(between, length):
            yield [one, *middle, other]


def way_strength(table, way):
    return min(table[start][goal] for start, goal in zip(way, way[1:]))


def tried_strength(table, one, other):
    if one == other:
        return 0
    return max(way_strength(table, way) for way in every_way(len(table), one, other))


def tried_strengths(count, ballots):
    table = counted_links(count, ballots)
    return [[tried_strength(table, one, other) for other in range(count)] for one in range(count)]


def is_wall(table, strength, wall, one, other):
    if wall != sorted(set(wall)) or one not in wall or other in wall:
        return False
    outside = [choice for choice in range(len(table)) if choice not in wall]
    return all(table[start][goal] <= strength for start in wall for goal in outside)


def layers_by_definition(table):
    left = set(range(len(table)))
    answer = []
    while left:
        layer = {one for one in left if all(table[one][other] >= table[other][one] for other in left)}
        answer.append(sorted(layer))
        left -= layer
    return answer


def small_ballots(count):
    """Every ballot of so many choices that tells something else than the others."""
    found = {}
    for ballot in every_ballot(count):
        found.setdefault(str(counted_likings(count, [ballot])), ballot)
    return list(found.values())


def some_elections(many):
    """Ballots of four or five choices, drawn by a fixed seed, with some of them several times."""
    chance = random.Random(7)
    drawn = {count: every_ballot(count) for count in (4, 5)}
    for turn in range(many):
        count = chance.choice((4, 5, 5))
        ballots = []
        for ballot in chance.sample(drawn[count], chance.randrange(2, 8)):
            ballots.extend([ballot] * chance.randrange(1, 5))
        yield count, ballots


def without(ballot, one):
    groups = [[choice for choice in group if choice != one] for group in ballot]
    return [group for group in groups if group]


class Ballots(unittest.TestCase):
    def test_is_ballot_of_every_short_list(self):
        groups = [list(group) for size in range(3) for group in product(range(-1, 4), repeat=size)]
        for count in range(4):
            ballots = every_ballot(count)
            for size in range(3):
                for made in product(groups, repeat=size):
                    self.assertIs(is_ballot(count, list(made)), list(made) in ballots, (count, made))

    def test_is_ballot_of_every_ballot(self):
        for count in range(5):
            for ballot in every_ballot(count):
                self.assertIs(is_ballot(count, ballot), True, (count, ballot))

    def test_lifted_keeps_the_others_and_the_order(self):
        for count in range(1, 5):
            for ballot in every_ballot(count):
                for one in range(count):
                    answer = lifted(count, ballot, one)
                    self.assertIs(is_ballot(count, answer), True, (ballot, one))
                    self.assertEqual(without(answer, one), without(ballot, one), (ballot, one))

    def test_lifted_moves_by_one_step(self):
        for count in range(1, 5):
            for ballot in every_ballot(count):
                for one in range(count):
                    self.check_step(count, ballot, one)

    def check_step(self, count, ballot, one):
        ranks = rank_list(count, ballot)
        now = rank_list(count, lifted(count, ballot, one))
        beside = [other for other in range(count) if other != one and ranks[other] == ranks[one]]
        nearest = [other for other in range(count) if ranks[other] == ranks[one] - 1]
        for other in range(count):
            if other == one:
                continue
            if other in beside:
                self.assertLess(now[one], now[other], (ballot, one))
            elif ranks[other] > ranks[one]:
                self.assertLess(now[one], now[other], (ballot, one))
            elif not beside and other in nearest:
                self.assertEqual(now[one], now[other], (ballot, one))
            else:
                self.assertGreater(now[one], now[other], (ballot, one))


class Tables(unittest.TestCase):
    def test_every_ballot_by_itself(self):
        for count in range(5):
            for ballot in every_ballot(count):
                self.assertEqual(likings(count, [ballot]), counted_likings(count, [ballot]), ballot)
                self.assertEqual(links(count, [ballot]), counted_links(count, [ballot]), ballot)

    def test_every_two_ballots_of_three_choices(self):
        ballots = every_ballot(3)
        for pair in product(ballots, repeat=2):
            self.assertEqual(likings(3, list(pair)), counted_likings(3, pair), pair)
            self.assertEqual(links(3, list(pair)), counted_links(3, pair), pair)

    def test_many_ballots_together(self):
        every = every_ballot(4)
        for start in range(0, len(every), 7):
            ballots = every[start::29]
            self.assertEqual(likings(4, ballots), counted_likings(4, ballots))
            self.assertEqual(links(4, ballots), counted_links(4, ballots))


class Ways(unittest.TestCase):
    def check(self, count, ballots):
        table = tried_strengths(count, ballots)
        self.assertEqual(strengths(count, ballots), table, (count, ballots))
        self.assertEqual(layers(count, ballots), layers_by_definition(table), (count, ballots))
        self.assertEqual(chosen(count, ballots), (layers_by_definition(table) + [[]])[0], (count, ballots))
        return table

    def check_each_pair(self, count, ballots):
        table = self.check(count, ballots)
        linked = counted_links(count, ballots)
        for one, other in product(range(count), repeat=2):
            ahead = table[one][other] > table[other][one]
            self.assertIs(is_ahead(count, ballots, one, other), ahead, (ballots, one, other))
            if one != other:
                self.check_shown(linked, table[one][other], strongest(count, ballots, one, other), one, other)

    def check_shown(self, linked, wanted, answer, one, other):
        strength, way, wall = answer
        self.assertEqual(strength, wanted)
        self.assertTrue(is_wall(linked, strength, wall, one, other), (linked, wall, one, other))
        if strength == 0:
            self.assertEqual(way, [])
        else:
            self.assertIn(way, list(every_way(len(linked), one, other)))
            self.assertEqual(way_strength(linked, way), strength, (linked, way))

    def test_every_ballot_by_itself(self):
        for count in range(5):
            for ballot in every_ballot(count):
                self.check(count, [ballot])

    def test_every_two_ballots_of_three_choices(self):
        for pair in product(every_ballot(3), repeat=2):
            self.check(3, list(pair))

    def test_every_few_ballots_of_up_to_three_choices(self):
        for count in range(4):
            for many in range(5):
                for ballots in combinations_with_replacement(small_ballots(count), many):
                    self.check_each_pair(count, list(ballots))

    def test_every_three_ballots_of_four_choices_one_by_one(self):
        orders = [[[choice] for choice in order] for order in permutations(range(4))]
        for ballots in combinations(orders, 3):
            self.check(4, list(ballots))

    def test_some_elections(self):
        seen = []
        for count, ballots in some_elections(500):
            self.check_each_pair(count, ballots)
            seen.append(strengths(count, ballots) != links(count, ballots))
        self.assertGreater(sum(seen), 100)

    def test_ahead_of_one_that_is_ahead_of_a_third(self):
        for count, ballots in some_elections(60):
            table = tried_strengths(count, ballots)
            for one, other, third in permutations(range(count), 3):
                if table[one][other] > table[other][one] and table[other][third] > table[third][other]:
                    self.assertIs(is_ahead(count, ballots, one, third), True)


class Lines(unittest.TestCase):
    def test_every_ballot_is_written_and_read_back(self):
        for count in range(6):
            lines = {}
            for ballot in every_ballot(count):
                line = shown(ballot)
                self.assertEqual(read(count, line), ballot)
                lines[line] = True
            self.assertEqual(len(lines), len(every_ballot(count)))

    def test_lines_read_with_more_choices_than_they_name(self):
        for ballot in every_ballot(4):
            self.assertEqual(read(104, shown(ballot)), ballot)


if __name__ == "__main__":
    unittest.main()
