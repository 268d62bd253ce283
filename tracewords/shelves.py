"""What a desk keeps under names, and the claims that are noted under labels, with their states [95], [96]."""
from tracewords.basics import copied
from tracewords.claims import is_true
from tracewords.commands import CLAIMS
from tracewords.errors import (InvalidClaim, LabelTaken, LimitError, NameTaken, StateError, TableError, UnknownLabel,
                               UnknownName)

THINGS = ("TABLE", "HOUSE", "ROWS", "NAME", "OTHER")


class Shelf:
    """Things and claims. A shelf is never changed: what changes is kept on another one.

    `things` holds under each name a tuple of a kind and a thing, `claims` under each label the list of a claim's word
    and the names of its things, `told` under each label the claim's state.
    """

    def __init__(self, things, claims, told):
        self.things = things
        self.claims = claims
        self.told = told


def parts_under(shelf, kinds, values):
    """The values of these kinds, with copies of what is kept in the place of the names of things.

    Raises NameTaken, LabelTaken, UnknownName, UnknownLabel with the first value that is not as its kind wants.
    """
    found, ahead = [], None
    for kind, value in zip(kinds, values):
        if kind == "NEW" and value in shelf.things:
            raise NameTaken(value)
        if kind == "FRESH" and value in shelf.claims:
            raise LabelTaken(value)
        if kind == "LABEL" and value not in shelf.claims:
            raise UnknownLabel(value)
        if kind in THINGS:
            ahead, thing = thing_under(shelf, ahead if kind == "OTHER" else kind, value)
            found.append(copied(thing))
        else:
            found.append(value)
    return found


def thing_under(shelf, kind, name):
    """The tuple of the kind and the thing that is kept under the name; raises UnknownName unless it is of this kind."""
    if name not in shelf.things:
        raise UnknownName(name)
    thing = shelf.things[name]
    if kind != "NAME" and kind != thing[0]:
        raise UnknownName(name)
    return thing


def with_thing(shelf, name, kind, thing):
    """The shelf on which the thing is kept under the name."""
    return with_things(shelf, name, {**shelf.things, name: (kind, thing)})


def without_thing(shelf, name):
    """The shelf on which nothing is kept under the name."""
    return with_things(shelf, name, {one: shelf.things[one] for one in shelf.things if one != name})


def with_things(shelf, name, things):
    """The shelf with these things, of which only the one under this name may be another one."""
    fresh = Shelf(things, shelf.claims, shelf.told)
    told = {label: state_under(fresh, label) if name in words[1:] else shelf.told[label]
            for label, words in shelf.claims.items()}
    return Shelf(things, shelf.claims, told)


def with_claim(shelf, label, words, claim):
    """The shelf on which the claim of these words is noted; raises InvalidClaim if it is none, or an error stops it."""
    state = state_of(claim)
    if state == "gone":
        raise InvalidClaim(claim)
    return Shelf(shelf.things, {**shelf.claims, label: words}, {**shelf.told, label: state})


def without_claim(shelf, label):
    """The shelf on which no claim is noted under the label."""
    claims = {one: shelf.claims[one] for one in shelf.claims if one != label}
    return Shelf(shelf.things, claims, {one: shelf.told[one] for one in claims})


def claim_under(shelf, label):
    """The tuple of the label's claim, with copies of what is kept; raises UnknownName if a thing of it is gone."""
    word, *names = shelf.claims[label]
    return tuple([word] + parts_under(shelf, CLAIMS[word].split(), names))


def state_under(shelf, label):
    """The state of the label's claim."""
    try:
        claim = claim_under(shelf, label)
    except UnknownName:
        return "gone"
    return state_of(claim)


def state_of(claim):
    """The state of a claim, which may be none."""
    try:
        return "true" if is_true(claim) else "false"
    except (TableError, StateError, LimitError):
        return "gone"
