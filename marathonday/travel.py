"""How soon one can be anywhere by the roads, some of them over crossings that are shut for a while."""

from marathonday.closures import each_may_cross, first_minutes


def crossing_minutes(race):
    """Of each crossing, for each minute of the day, the first one from it on in which cars may cross."""
    return [first_minutes(may) for may in each_may_cross(race)]


def road_end(road, minute, crossings):
    """When one is at a road's other end, leaving its one end in that minute."""
    if road.crossing == 0:
        return minute + road.long
    half = road.long // 2
    met = minute + half
    firsts = crossings[road.crossing - 1]
    # Behind the day nobody waits.
    crossed = firsts[met] if met < len(firsts) else met
    return crossed + road.long - half


def ways_along(roads):
    """Each road as it can be gone, either way: the road, from where, to where."""
    ways = []
    for road in roads:
        ways.append((road, road.one_end, road.other_end))
        ways.append((road, road.other_end, road.one_end))
    return ways


def earliest(race, crossings, place, minute):
    """The earliest minute in which one can be at each place, None where there's no way."""
    at = [None] * race.places
    at[place] = minute
    ways = ways_along(race.roads)
    sooner = True
    # Who leaves later never comes sooner: so it is enough to look from the earliest at each place, till none is sooner.
    while sooner:
        sooner = False
        for road, here, there in ways:
            if at[here] is not None:
                end = road_end(road, at[here], crossings)
                if at[there] is None or end < at[there]:
                    at[there] = end
                    sooner = True
    return at


def latest_leave(race, crossings, one, other, minute):
    """The latest minute in which to leave one place, to be at the other by that minute; None if there's none."""
    for leave in range(minute, -1, -1):
        end = earliest(race, crossings, one, leave)[other]
        if end is not None and end <= minute:
            return leave
    return None


def times_taken(race, crossings, one, other):
    """How many minutes it takes from one place to the other, leaving in each minute of the day; a way is there."""
    return [earliest(race, crossings, one, leave)[other] - leave for leave in range(race.minutes)]
