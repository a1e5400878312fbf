"""What a desk keeps under names and notes under labels at one moment."""

from hingerows.claims import is_claim, is_true
from hingerows.eights import Eight
from hingerows.errors import LabelTaken, NameTaken, UnknownLabel, UnknownName, WrongThing
from hingerows.motions import Motion


class Shelf:
    """The things under their names, the words of the claims under their labels, and the states of these.

    A shelf never changes, neither do its dicts and lists: what a deed does makes another shelf.
    """

    def __init__(self, things, notes, states):
        self.things = things
        self.notes = notes
        self.states = states

    def with_thing(self, name, thing):
        """The shelf with this thing under the name."""
        return self.with_things({**self.things, name: thing}, name)

    def without_thing(self, name):
        """The shelf with nothing under the name."""
        return self.with_things({other: self.things[other] for other in self.things if other != name}, name)

    def with_things(self, things, name):
        """The shelf with these things, unlike its own ones under this name alone."""
        states = {}
        for label, words in self.notes.items():
            states[label] = state_of(things, words) if name in words[1:] else self.states[label]
        return Shelf(things, self.notes, states)

    def with_note(self, label, words):
        """The shelf with the claim of these words noted under the label."""
        return Shelf(self.things, {**self.notes, label: words}, {**self.states, label: state_of(self.things, words)})

    def without_note(self, label):
        """The shelf with nothing noted under the label."""
        notes = {other: self.notes[other] for other in self.notes if other != label}
        return Shelf(self.things, notes, {other: self.states[other] for other in notes})


def kind_of(thing):
    """The word of the kind of a kept thing: rows are kept as lists, points as tuples."""
    if isinstance(thing, Eight):
        return "eight"
    if isinstance(thing, Motion):
        return "motion"
    return "row" if isinstance(thing, list) else "point"


def copied(thing):
    """The thing, a row as a new list."""
    return list(thing) if isinstance(thing, list) else thing


def claim_by(things, words):
    """The claim that the words make of the things, None while it is gone."""
    word, *names = words
    if not all([name in things for name in names]):
        return None
    claim = (word, *[copied(things[name]) for name in names])
    return claim if is_claim(claim) else None


def state_of(things, words):
    """The state of the claim that the words make of the things."""
    claim = claim_by(things, words)
    if claim is None:
        return "gone"
    return "true" if is_true(claim) else "false"


def check_words(shelf, parts):
    """Raise an error unless the names and labels in the told parts of a command stand as they are wanted."""
    for slot, worth in parts:
        if slot == "NEW" and worth in shelf.things:
            raise NameTaken(worth)
        if slot == "NOTE" and worth in shelf.notes:
            raise LabelTaken(worth)
    named = named_things(parts)
    for _, name in named:
        if name not in shelf.things:
            raise UnknownName(name)
    for slot, worth in parts:
        if slot == "LABEL" and worth not in shelf.notes:
            raise UnknownLabel(worth)
    for wanted, name in named:
        kinds = [kind_of(shelf.things[named[0][1]])] if wanted == "like" else wanted.split(" ")
        if kind_of(shelf.things[name]) not in kinds:
            raise WrongThing(name)


def named_things(parts):
    """The list of the tuples of the kinds wanted, and the name, for each name of something kept, in their sequence."""
    named = []
    for slot, worth in parts:
        if slot == "NAMES":
            named.extend([("eight", name) for name in worth])
        elif slot.islower():
            named.append((slot, worth))
    return named


def worths_of(shelf, parts):
    """What the parts of a command tell but for the name of something new, kept things for their names."""
    worths = []
    for slot, worth in parts:
        if slot == "NAMES":
            worths.append([shelf.things[name] for name in worth])
        elif slot.islower():
            worths.append(shelf.things[worth])
        elif slot != "NEW":
            worths.append(worth)
    return worths
