"""The urn: ballots come and go, and it is told what those that are in it say."""

from strongway.ballots import copied, demand_ballot, demand_both
from strongway.choosing import chosen_by
from strongway.errors import NoBallot, NoChoice
from strongway.tables import add_ballot, blank_table, links_by
from strongway.ways import strengths_by


class Urn:
    def __init__(self, count):
        self.count = count
        self.ballots = {}
        self.given = 0
        # The likings follow each ballot that comes or goes, as counting all anew would take long.
        self.liked = blank_table(count)
        self.known = None

    def cast(self, ballot):
        demand_ballot(self.count, ballot)
        number = self.given
        self.ballots[number] = copied(ballot)
        self.given += 1
        self.count_in(self.ballots[number], 1)
        return number

    def back(self, number):
        if number not in self.ballots:
            raise NoBallot("no ballot of this number in the urn")
        self.count_in(self.ballots.pop(number), -1)
        return len(self.ballots)

    def count_in(self, ballot, times):
        add_ballot(self.liked, ballot, times)
        self.known = None

    def strength(self, one, other):
        demand_both(self.count, one, other)
        return self.all_strengths()[one][other]

    def chosen(self):
        return chosen_by(self.all_strengths())

    def all_strengths(self):
        # They are kept until a ballot comes or goes, as several deeds may ask for them in between.
        if self.known is None:
            self.known = strengths_by(links_by(self.liked))
        return self.known


def answers(count, deeds):
    urn = Urn(count)
    return [answer_to(urn, deed) for deed in deeds]


def answer_to(urn, deed):
    try:
        return do_deed(urn, deed)
    except NoBallot:
        return "no ballot"
    except NoChoice:
        return "no choice"


def do_deed(urn, deed):
    if deed[0] == "cast":
        return urn.cast(deed[1])
    if deed[0] == "back":
        return urn.back(deed[1])
    if deed[0] == "strength":
        return urn.strength(deed[1], deed[2])
    return urn.chosen()
