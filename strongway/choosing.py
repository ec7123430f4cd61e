"""Choosing by strengths: who is ahead of whom, who may be chosen, and the layers."""

from strongway.ballots import demand_both
from strongway.ways import strengths


def is_ahead(count, ballots, one, other):
    # The strengths come first, as a list that is no ballot is refused ahead of a number that is no choice.
    table = strengths(count, ballots)
    demand_both(count, one, other)
    return is_ahead_by(table, one, other)


def is_ahead_by(table, one, other):
    return table[one][other] > table[other][one]


def chosen(count, ballots):
    return chosen_by(strengths(count, ballots))


def chosen_by(table):
    return behind_none(table, list(range(len(table))))


def behind_none(table, left):
    return [choice for choice in left if not is_behind_any(table, choice, left)]


def is_behind_any(table, choice, left):
    for other in left:
        if is_ahead_by(table, other, choice):
            return True
    return False


def layers(count, ballots):
    table = strengths(count, ballots)
    left = list(range(count))
    found = []
    # Being ahead never runs in a circle, so each layer holds at least one and none is left at last.
    while len(left) > 0:
        layer = behind_none(table, left)
        found.append(layer)
        left = [choice for choice in left if choice not in layer]
    return found
