"""Fleets: members that call each other by name."""

from romwright.order import ascending
from romwright.plain import BadEvent, BadName, is_name, is_word, NoMember, TooMany, Twice

MOST_MEMBERS = 8
MOST_CALLS = 50


class Fleet:
    def __init__(self, members):
        if len(members) > MOST_MEMBERS:
            raise TooMany(MOST_MEMBERS)
        for name in members:
            if not is_name(name):
                raise BadName(name)
        self.names = tuple(ascending(members))
        self.members = {name: members[name] for name in self.names}

    def meet(self, name, event):
        if name not in self.members:
            raise NoMember(name)
        if not is_for_fleets(event):
            raise BadEvent(event)
        return met_together(self.members, name, event)

    def __getitem__(self, at):
        if at not in self.members:
            raise NoMember(at)
        return self.members[at]

    def __contains__(self, x):
        return x in self.members

    def __iter__(self):
        return iter(self.names)

    def __len__(self):
        return len(self.members)

    def __or__(self, other):
        if not isinstance(other, Fleet):
            return NotImplemented
        for name in self.names:
            if name in other.members:
                raise Twice(name)
        return Fleet({**self.members, **other.members})

    def missing(self):
        offers = {name: self.members[name].offers for name in self.names}
        wants = {name: self.members[name].wants for name in self.names}
        return missing_among(offers, wants)


def is_for_fleets(event):
    """Whether this is a start or a feed."""
    if not isinstance(event, tuple) or len(event) == 0:
        return False
    if event[0] == "start":
        return len(event) == 1
    return event[0] == "feed" and len(event) == 2 and is_word(event[1])


def missing_among(offers, wants):
    """The wants that nobody else offers, (name, peer, s, takes, leaves), ascending, a tuple."""
    rows = []
    for name in wants:
        for peer, offered, takes, leaves in wants[name]:
            if peer == name or peer not in offers or (offered, takes, leaves) not in offers[peer]:
                rows.append((name, peer, offered, takes, leaves))
    return tuple(ascending(rows))


def met_together(members, name, event):
    """The pairs of names and observations behind an event of a member."""
    told = members[name].meet(event)
    seen = told_by(name, told)
    calls = 0
    while told[-1][0] == "far":
        calls += 1
        reply = ("lost",)
        if calls <= MOST_CALLS and is_answered(members, name, told[-1]):
            _, peer, offered, words, _ = told[-1]
            answer = members[peer].meet(("call", offered, words))
            seen.extend(told_by(peer, answer))
            if answer[-1][0] == "back":
                reply = ("answer", answer[-1][1])
        told = members[name].meet(reply)
        seen.extend(told_by(name, told))
    return tuple(seen)


def told_by(name, told):
    return [(name, each) for each in told]


def is_answered(members, name, far):
    """Whether the peer of a far call is another member that can meet the call."""
    _, peer, offered, words, leaves = far
    if peer == name or peer not in members:
        return False
    return (offered, len(words), leaves) in members[peer].offers and members[peer].kind in ("asks", "done")
