"""Ballots: which lists are ballots, and how a choice is lifted on one."""

from strongway.errors import NoBallot, NoChoice


def is_choice(count, number):
    return 0 <= number < count


def is_ballot(count, ballot):
    named = {}
    for group in ballot:
        if len(group) == 0:
            return False
        for choice in group:
            if not is_choice(count, choice) or choice in named:
                return False
            named[choice] = True
    return True


def demand_ballot(count, ballot):
    if not is_ballot(count, ballot):
        raise NoBallot("not a ballot of these choices")


def demand_choice(count, number):
    if not is_choice(count, number):
        raise NoChoice("not one of the choices")


def demand_both(count, one, other):
    demand_choice(count, one)
    demand_choice(count, other)


def lifted(count, ballot, one):
    demand_ballot(count, ballot)
    demand_choice(count, one)
    groups = copied(ballot)
    place = place_of(groups, one)
    if place == len(groups):
        return lifted_from_unnamed(count, groups, one)
    return lifted_from_group(groups, place, one)


def copied(ballot):
    # The groups are copied too, so that no list is shared with what was handed in.
    return [list(group) for group in ballot]


def place_of(groups, one):
    # Those that aren't named are liked like a group behind the last, so theirs is the place behind it.
    for place, group in enumerate(groups):
        if one in group:
            return place
    return len(groups)


def lifted_from_unnamed(count, groups, one):
    named = sum([len(group) for group in groups])
    if count - named > 1:
        return groups + [[one]]
    return joined_ahead(groups, len(groups), one)


def lifted_from_group(groups, place, one):
    others = [choice for choice in groups[place] if choice != one]
    if len(others) > 0:
        return groups[:place] + [[one], others] + groups[place + 1:]
    return joined_ahead(groups, place, one)


def joined_ahead(groups, place, one):
    if place == 0:
        return groups
    joined = groups[place - 1] + [one]
    return groups[:place - 1] + [joined] + groups[place + 1:]
