"""Tables with a row and a column for each choice: the likings and the links."""

from strongway.ballots import demand_ballot


def likings(count, ballots):
    for ballot in ballots:
        demand_ballot(count, ballot)
    table = blank_table(count)
    for ballot in ballots:
        add_ballot(table, ballot, 1)
    return table


def blank_table(count):
    return [[0] * count for row in range(count)]


def add_ballot(table, ballot, times):
    # What is left when a group and all ahead of it are gone holds the unnamed too: they are behind all groups.
    behind = list(range(len(table)))
    for group in ballot:
        behind = [choice for choice in behind if choice not in group]
        for one in group:
            add_to_each(table[one], behind, times)


def add_to_each(row, choices, times):
    for choice in choices:
        row[choice] += times


def links(count, ballots):
    return links_by(likings(count, ballots))


def links_by(liked):
    return [link_row(liked, one) for one in range(len(liked))]


def link_row(liked, one):
    return [link_strength(liked, one, other) for other in range(len(liked))]


def link_strength(liked, one, other):
    if liked[one][other] > liked[other][one]:
        return liked[one][other]
    return 0
