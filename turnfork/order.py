"""Order: which tokens crossed, which numbers lack, how tokens wait, and events one by one."""

from turnfork.hall import Hall
from turnfork.weavings import done, woven


def ways(net, events):
    """The place of each token's coming, and the place and the number of its leaving: two dicts."""
    came = {}
    left = {}
    for place, (event, told) in enumerate(zip(events, woven(net, events))):
        if event[0] != "go":
            came[told] = place
        elif told[0] == "end":
            left[event[1]] = (place, told[2])
    return came, left


def crossed(net, events):
    """The tokens (one, other) where one left with a greater number ahead of the other's coming."""
    came, left = ways(net, events)
    told = []
    for one, (place, number) in left.items():
        for other, (later, lesser) in left.items():
            if place < came[other] and number > lesser:
                told.append((one, other))
    return sorted(told)


def lacking(net, events):
    """The numbers below how many tokens came that none of them took: a rising list."""
    came, left = ways(net, events)
    taken = {number: True for place, number in left.values()}
    return [number for number in range(len(came)) if number not in taken]


def waits(net, events):
    """For each switch (passed, waits): how many tokens passed it, and all waits there."""
    hall = Hall(net)
    through = [0] * len(net[1])
    waited = [0] * len(net[1])
    for place, event in enumerate(events):
        told = done(hall, place, event)
        if event[0] == "go" and told[0] == "switch":
            switch = told[1]
            through[switch] += 1
            # The token itself no longer stands ahead of this switch, so all that do are others.
            waited[switch] += [row[3] for row in hall.stand()[1]].count(switch)
    return list(zip(through, waited))


def one_by_one(net, counts):
    """The events in which all tokens come, and then each goes to its end, one after another."""
    hall = Hall(net)
    events = [("come", wire) for wire, count in enumerate(counts) for token in range(count)]
    tokens = [hall.come(wire) for word, wire in events]
    for token in tokens:
        events.append(("go", token))
        while hall.go(token)[0] != "end":
            events.append(("go", token))
    return events
