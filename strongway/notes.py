"""Lines: how a ballot is written as one, and read from one."""

from strongway.ballots import demand_ballot, is_ballot
from strongway.errors import NoLine

FIGURES = "0123456789"


def shown(ballot):
    # How many choices there are isn't told here, so there are as many as the ballot needs.
    last = max([max(group, default=0) for group in ballot], default=0)
    demand_ballot(last + 1, ballot)
    return ">".join([shown_group(group) for group in ballot])


def shown_group(group):
    return "=".join([str(choice) for choice in group])


def read(count, line):
    # The parts of the empty line would be one empty part, and not none.
    if line == "":
        return []
    ballot = [read_group(count, part) for part in line.split(">")]
    if not is_ballot(count, ballot):
        raise NoLine("the line of no ballot of these choices")
    return ballot


def read_group(count, part):
    return [read_choice(count, word) for word in part.split("=")]


def read_choice(count, word):
    # A number of more figures than the count is no choice, and might be too long for int.
    if not is_number(word) or len(word) > len(str(count)):
        raise NoLine("not the figures of a choice")
    return int(word)


def is_number(word):
    if word == "" or not all([sign in FIGURES for sign in word]):
        return False
    return word == "0" or word[0] != "0"
