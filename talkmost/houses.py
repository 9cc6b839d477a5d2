"""Houses: the states, and the hearers with their kinds and acts."""

from talkmost.draws import size
from talkmost.errors import BadText, NotAllowed
from talkmost.words import Reader

MOST_STATES = 4
MOST_HEARERS = 3
MOST_KINDS = 3
MOST_ACTS = 3
MOST_CASES = 48


class House:
    """A list of names of states, and a list of hearers `(name, kinds, acts)`."""

    def __init__(self, states, hearers):
        self.states = list(states)
        self.hearers = [(name, list(kinds), list(acts)) for name, kinds, acts in hearers]


def kind_counts(house):
    """Return the list of how many kinds each hearer has."""
    return [len(kinds) for kinds in kind_lists(house)]


def act_counts(house):
    """Return the list of how many acts each hearer has."""
    return [len(acts) for name, kinds, acts in house.hearers]


def kind_lists(house):
    """Return the list of the lists of the hearers' kinds."""
    return [kinds for name, kinds, acts in house.hearers]


def hearer_names(house):
    """Return the list of the hearers' names."""
    return [name for name, kinds, acts in house.hearers]


def parse_house(text):
    """Return the house that the text tells of."""
    reader = Reader(text)
    reader.take(["house"])
    reader.take(["states"])
    states = read_names(reader, MOST_STATES, "end")
    hearers = read_hearers(reader)
    if not reader.ended():
        raise BadText(reader.at)
    house = House(states, hearers)
    if case_count(house) > MOST_CASES:
        raise NotAllowed(f"a house has at most {MOST_CASES} cases")
    return house


def read_names(reader, most, last):
    """Take from one name up to `most` different ones, and the word `last` behind them."""
    names = []
    while not names or reader.peek() != last:
        if len(names) == most:
            raise BadText(reader.at)
        names.append(reader.take_new_name(names))
    reader.take([last])
    return names


def read_hearers(reader):
    """Take from one hearer up to as many as there may be, and the `end` behind them."""
    hearers = []
    while not hearers or reader.peek() != "end":
        if len(hearers) == MOST_HEARERS:
            raise BadText(reader.at)
        hearers.append(read_hearer(reader, [name for name, kinds, acts in hearers]))
    reader.take(["end"])
    return hearers


def read_hearer(reader, taken):
    """Take one hearer, whose name is none of those that are taken."""
    reader.take(["hearer"])
    name = reader.take_new_name(taken)
    reader.take(["kinds"])
    kinds = read_names(reader, MOST_KINDS, "acts")
    acts = read_names(reader, MOST_ACTS, "end")
    return (name, kinds, acts)


def case_count(house):
    """Return the number of states, times rows of kinds, times rows of acts."""
    return len(house.states) * size(kind_counts(house)) * size(act_counts(house))


def format_house(house):
    """Return the text of a house."""
    words = ["house", "states", *house.states, "end"]
    for name, kinds, acts in house.hearers:
        words.extend(["hearer", name, "kinds", *kinds, "acts", *acts, "end"])
    words.append("end")
    return " ".join(words)
