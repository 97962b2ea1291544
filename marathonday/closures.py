"""When cars may cross where runners pass, how long crossings are shut, and who stands there."""

from marathonday.flow import day_going, passing


def gaps_in(free, gap):
    """Whether cars may cross in each minute of the day, of which is told whether it is free."""
    minutes = len(free)
    # Behind the day all is free, so a gap that begins in it may reach beyond it.
    beyond = free + [True] * gap
    may = [False] * len(beyond)
    for first in range(minutes):
        if all(beyond[first:first + gap]):
            for minute in range(first, first + gap):
                may[minute] = True
    return may[:minutes]


def may_cross(race, c):
    """Whether cars may cross at a crossing, in each minute of the day."""
    return gaps_in([many == 0 for many in passing(day_going(race), race.crossings[c])], race.gap)


def each_may_cross(race):
    """The same, for each crossing."""
    return [may_cross(race, c) for c in range(len(race.crossings))]


def first_minutes(may):
    """Of each minute of the day the first one from it on in which cars may cross, if only behind the day."""
    firsts = []
    first = len(may)
    for minute in range(len(may) - 1, -1, -1):
        if may[minute]:
            first = minute
        firsts.append(first)
    firsts.reverse()
    return firsts


def shut_spans(may):
    """Of each shut, rising, its first minute, and how many it has."""
    spans = []
    first = 0
    # Behind the day they may cross: what is still shut then ends there.
    for minute, crossed in enumerate(may + [True]):
        if crossed:
            if first < minute:
                spans.append((first, minute - first))
            first = minute + 1
    return spans


def hold_minutes(spans, most, gap):
    """The minutes in which holds begin, rising, so that no shut lasts longer than so many minutes."""
    minutes = []
    for first, long in spans:
        minutes.extend(list(range(first + most, first + long, most + gap)))
    return minutes


def least_most(spans, holds, gap):
    """The least most for which so many holds are enough."""
    # No shut is longer than the day, so the day's minutes need no hold at all.
    most = 1
    while len(hold_minutes(spans, most, gap)) > holds:
        most += 1
    return most


def shut_at_once(mays, minutes):
    """At how many crossings, at most, cars may not cross in one of so many minutes."""
    return max([len([may for may in mays if not may[minute]]) for minute in range(minutes)])


def in_order(spans):
    """All shuts, each a first minute, a crossing and how many minutes, in the order in which they begin."""
    shuts = []
    for crossing, own in enumerate(spans):
        for first, long in own:
            shuts.append((first, crossing, long))
    return sorted(shuts)


def least_free(behind, minute):
    """The least marshal who isn't at a shut in that minute; behind tells when the last one of each ended."""
    marshal = 0
    while marshal < len(behind) and behind[marshal] > minute:
        marshal += 1
    return marshal


def with_marshals(shuts):
    """Each of the shuts, in their order, with its marshal."""
    duties = []
    behind = []
    for first, crossing, long in shuts:
        marshal = least_free(behind, first)
        if marshal == len(behind):
            behind.append(0)
        behind[marshal] = first + long
        duties.append((first, crossing, long, marshal))
    return duties
