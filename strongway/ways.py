"""Ways of links from one choice to another: how strong they are, and what shows it."""

from strongway.ballots import demand_both
from strongway.errors import NoChoice
from strongway.tables import blank_table, links


def strengths(count, ballots):
    return strengths_by(links(count, ballots))


def strengths_by(table):
    # The links are laid from the strongest on. So the link that first makes a way between two choices is the weakest
    # of that way, and no way between them has a stronger weakest one.
    laid = LaidLinks(len(table))
    for link in falling_links(table):
        laid.lay(link[0], link[1], link[2])
    return laid.table


def falling_links(table):
    found = []
    for one, row in enumerate(table):
        for other, strength in enumerate(row):
            if strength > 0:
                found.append((strength, one, other))
    return sorted(found, reverse=True)


class LaidLinks:
    def __init__(self, count):
        self.table = blank_table(count)
        # Each choice leads to itself here, as a way may begin or end with the link that is being laid.
        self.leads = [led_row(count, one) for one in range(count)]
        self.starts = [[one] for one in range(count)]
        self.goals = [[one] for one in range(count)]

    def lay(self, strength, one, other):
        if self.leads[one][other]:
            return
        # A start that leads to the other one already leads to all goals of that too, and gains nothing.
        gaining = [start for start in self.starts[one] if not self.leads[start][other]]
        for start in gaining:
            self.lead_on(strength, start, other)

    def lead_on(self, strength, start, other):
        leads = self.leads[start]
        gained = [goal for goal in self.goals[other] if not leads[goal]]
        for goal in gained:
            leads[goal] = True
            self.table[start][goal] = strength
            self.starts[goal].append(start)
        self.goals[start].extend(gained)


def led_row(count, one):
    return [other == one for other in range(count)]


def strongest(count, ballots, one, other):
    table = links(count, ballots)
    demand_both(count, one, other)
    if one == other:
        raise NoChoice("the same choice twice")
    row = strengths_by(table)[one]
    strength = row[other]
    return (strength, way_by(table, strength, one, other), wall_by(row, strength, one))


def way_by(table, strength, one, other):
    if strength == 0:
        return []
    origins = origins_from(table, strength, one)
    way = [other]
    while way[-1] != one:
        way.append(origins[way[-1]])
    return list(reversed(way))


def origins_from(table, strength, one):
    # From which choice each one was first come to, over links that are strong enough alone.
    origins = {one: one}
    edge = [one]
    while len(edge) > 0:
        start = edge.pop()
        for goal, link in enumerate(table[start]):
            if link >= strength and goal not in origins:
                origins[goal] = start
                edge.append(goal)
    return origins


def wall_by(row, strength, one):
    # A stronger link that left this wall would make the one stronger against its end too, which so would be within.
    return [choice for choice in range(len(row)) if choice == one or row[choice] > strength]
