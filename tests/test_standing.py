"""What stays: where a choice is lifted, where a twin comes in, in another order, and with other numbers."""

import random
import unittest
from itertools import combinations, product

from samples import CIRCLE, some_groups
from strongway.ballots import is_ballot, lifted
from strongway.choosing import chosen, is_ahead, layers
from strongway.tables import likings, links
from strongway.ways import strengths, strongest


def some_ballot(chance, count):
    return some_groups(chance, chance.sample(range(count), chance.randrange(count + 1)))


def some_elections(seed, many, most=6):
    chance = random.Random(seed)
    for turn in range(many):
        count = chance.randrange(1, most)
        yield chance, count, [some_ballot(chance, count) for ballot in range(chance.randrange(1, 8))]


class Lifted(unittest.TestCase):
    def check(self, count, ballots, lifts):
        """Whoever may be chosen is lifted on the ballots of these places, one after the other, and may be still."""
        for one in chosen(count, ballots):
            now = list(ballots)
            for place in lifts:
                now[place] = lifted(count, now[place], one)
                self.assertIn(one, chosen(count, now), (ballots, lifts, one))

    def test_on_each_set_of_ballots(self):
        for chance, count, ballots in some_elections(1, 150):
            for many in range(min(len(ballots), 4) + 1):
                for lifts in combinations(range(min(len(ballots), 4)), many):
                    self.check(count, ballots, lifts)

    def test_several_times_on_one_ballot(self):
        for chance, count, ballots in some_elections(2, 150):
            self.check(count, ballots, [chance.randrange(len(ballots)) for lift in range(8)])

    def test_the_only_one_stays_the_only_one_or_among_them(self):
        for one in range(3):
            for place in range(3):
                now = list(CIRCLE)
                now[place] = lifted(3, now[place], one)
                self.assertIn(one, chosen(3, now))


def twin_places(count, ballot, one):
    """The ballots that this one may become when a twin comes in; it gets the next number."""
    twin = count
    named = [choice for group in ballot for choice in group]
    if one in named:
        place = [one in group for group in ballot].index(True)
        group = ballot[place]
        answer = [ballot[:place] + [made] + ballot[place + 1:] for made in (group + [twin], [twin] + group)]
        if group == [one]:
            answer.append(ballot[:place] + [[twin]] + ballot[place:])
            answer.append(ballot[:place + 1] + [[twin]] + ballot[place + 1:])
            if len(named) == count and place == len(ballot) - 1:
                answer.append(ballot)
        return answer
    if len(named) == count - 1:
        return [ballot, ballot + [[twin]], ballot + [[one]], ballot + [[one], [twin]], ballot + [[one, twin]]]
    return [ballot]


class Twins(unittest.TestCase):
    def check(self, count, ballots, one, grown):
        before = strengths(count, ballots)
        after = strengths(count + 1, grown)
        for start in range(count):
            self.assertEqual(after[start][:count], before[start], (ballots, grown))
        for other in range(count):
            if other != one:
                self.assertEqual(after[count][other], before[one][other], (ballots, grown))
                self.assertEqual(after[other][count], before[other][one], (ballots, grown))

    def test_every_choice_of_places(self):
        for chance, count, ballots in some_elections(3, 60, most=5):
            ballots = ballots[:4]
            for one in range(count):
                for grown in product(*[twin_places(count, ballot, one)[:4] for ballot in ballots]):
                    self.check(count, ballots, one, list(grown))

    def test_some_choices_of_places(self):
        for chance, count, ballots in some_elections(4, 300, most=7):
            for one in range(count):
                grown = [chance.choice(twin_places(count, ballot, one)) for ballot in ballots]
                self.assertTrue(all(is_ballot(count + 1, ballot) for ballot in grown))
                self.check(count, ballots, one, grown)

    def test_in_a_circle(self):
        grown = [[[0], [1, 3], [2]], [[3], [1], [2], [0]], [[2], [0], [1], [3]]]
        self.assertEqual(strengths(3, CIRCLE), [[0, 2, 2], [2, 0, 2], [2, 2, 0]])
        self.assertEqual([row[:3] for row in strengths(4, grown)[:3]], [[0, 2, 2], [2, 0, 2], [2, 2, 0]])
        self.check(3, CIRCLE, 1, grown)
        self.assertEqual(chosen(3, CIRCLE), [0, 1, 2])
        self.assertEqual(chosen(4, grown), [0, 1, 2, 3])


def all_told(count, ballots):
    ahead = [[is_ahead(count, ballots, one, other) for other in range(count)] for one in range(count)]
    tables = [likings(count, ballots), links(count, ballots), strengths(count, ballots), ahead]
    return tables, chosen(count, ballots), layers(count, ballots)


class Orders(unittest.TestCase):
    def test_order_of_ballots_and_within_groups(self):
        for chance, count, ballots in some_elections(5, 150):
            turned = [[chance.sample(group, len(group)) for group in ballot] for ballot in ballots]
            chance.shuffle(turned)
            self.assertEqual(all_told(count, turned), all_told(count, ballots), (ballots, turned))
            for one, other in combinations(range(count), 2):
                self.assertEqual(strongest(count, turned, one, other)[0], strongest(count, ballots, one, other)[0])

    def test_unnamed_as_a_last_group(self):
        for chance, count, ballots in some_elections(6, 100):
            full = []
            for ballot in ballots:
                named = [choice for group in ballot for choice in group]
                rest = [choice for choice in range(count) if choice not in named]
                full.append(ballot + [rest] if rest else ballot)
            self.assertEqual(all_told(count, full), all_told(count, ballots), ballots)

    def test_other_numbers(self):
        for chance, count, ballots in some_elections(8, 150):
            anew = chance.sample(range(count), count)
            renamed = [[[anew[choice] for choice in group] for group in ballot] for ballot in ballots]
            tables, first, stand = all_told(count, ballots)
            new_tables, new_first, new_stand = all_told(count, renamed)
            self.assertEqual(new_first, sorted(anew[choice] for choice in first))
            self.assertEqual(new_stand, [sorted(anew[choice] for choice in layer) for layer in stand])
            for table, new_table in zip(tables, new_tables):
                for one, other in product(range(count), repeat=2):
                    self.assertEqual(new_table[anew[one]][anew[other]], table[one][other], (ballots, anew))


if __name__ == "__main__":
    unittest.main()
