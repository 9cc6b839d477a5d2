"""Events: texts of conditions about the state, the kinds and the acts."""

from talkmost.houses import hearer_names
from talkmost.words import Reader

VERBS = ("is", "does")


def parse_event(house, text):
    """Return the list of conditions, `("state", s)`, `("is", h, i)` or `("does", h, a)`."""
    reader = Reader(text)
    event = []
    while not reader.ended():
        event.append(read_condition(house, reader, event))
    return event


def read_condition(house, reader, before):
    """Take one condition that may stand behind those before."""
    subject = reader.take(open_subjects(house, before))
    if subject == "state":
        return ("state", house.states.index(reader.take(house.states)))
    h = hearer_names(house).index(subject)
    verb = reader.take(open_verbs(before, h))
    names = names_behind(house, verb, h)
    return (verb, h, names.index(reader.take(names)))


def open_subjects(house, before):
    """Return the first words that a condition behind those before may have."""
    asked = [name for h, name in enumerate(hearer_names(house)) if open_verbs(before, h)]
    state_said = any([condition[0] == "state" for condition in before])
    return asked if state_said else ["state", *asked]


def open_verbs(before, h):
    """Return the words of `is` and `does` that are not said of hearer `h` before."""
    said = [condition[:2] for condition in before]
    return [verb for verb in VERBS if (verb, h) not in said]


def names_behind(house, verb, h):
    """Return the names that can stand behind the verb: kinds, or acts, of hearer `h`."""
    name, kinds, acts = house.hearers[h]
    return kinds if verb == "is" else acts


def format_event(house, event):
    """Return the text of a list of conditions."""
    return " ".join([format_condition(house, condition) for condition in event])


def format_condition(house, condition):
    """Return the text of one condition."""
    if condition[0] == "state":
        return f"state {house.states[condition[1]]}"
    verb, h, at = condition
    return f"{house.hearers[h][0]} {verb} {names_behind(house, verb, h)[at]}"


def holds(event, state, kinds, acts):
    """Return whether all conditions hold at the state, the row of kinds and the row of acts."""
    return all([condition_holds(condition, state, kinds, acts) for condition in event])


def condition_holds(condition, state, kinds, acts):
    """Return whether one condition holds."""
    if condition[0] == "state":
        return condition[1] == state
    verb, h, at = condition
    return at == (kinds[h] if verb == "is" else acts[h])
