"""The calls that ask how soon one can be at a place, and when to leave."""

from marathonday.refusal import IN_NO_WAY, NO_SUCH, NOT_AS_TOLD
from marathonday.travel import crossing_minutes, earliest, latest_leave, times_taken


def tell_arrive(race, one, other, minute):
    if one >= race.places or other >= race.places:
        return [NO_SUCH]
    if minute >= race.minutes:
        return [NOT_AS_TOLD]
    end = earliest(race, crossing_minutes(race), one, minute)[other]
    return [IN_NO_WAY] if end is None else [end]


def tell_each(race, place, minute):
    if place >= race.places:
        return [NO_SUCH]
    if minute >= race.minutes:
        return [NOT_AS_TOLD]
    ends = earliest(race, crossing_minutes(race), place, minute)
    return [len(ends)] + [0 if end is None else end + 1 for end in ends]


def tell_leave(race, one, other, minute):
    if one >= race.places or other >= race.places:
        return [NO_SUCH]
    if minute >= race.minutes:
        return [NOT_AS_TOLD]
    leave = latest_leave(race, crossing_minutes(race), one, other, minute)
    return [IN_NO_WAY] if leave is None else [leave]


def tell_worst(race, one, other):
    if one >= race.places or other >= race.places:
        return [NO_SUCH]
    crossings = crossing_minutes(race)
    if earliest(race, crossings, one, 0)[other] is None:
        return [IN_NO_WAY]
    times = times_taken(race, crossings, one, other)
    return [times.index(max(times)), max(times)]


TRIP_CALLS = {
    48: tell_arrive,
    49: tell_each,
    50: tell_leave,
    51: tell_worst,
}
