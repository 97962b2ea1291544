"""The calls that ask when crossings are shut, how runners are held there, and who stands there."""

from marathonday.closures import each_may_cross, first_minutes, hold_minutes, in_order
from marathonday.closures import least_most, may_cross, shut_at_once, shut_spans, with_marshals
from marathonday.flow import day_going, passing
from marathonday.refusal import NO_SUCH, NOT_AS_TOLD

LONGEST_MOST = 120


def tell_runs(race, c, minute):
    if c >= len(race.crossings):
        return [NO_SUCH]
    if minute >= race.minutes:
        return [NOT_AS_TOLD]
    return [1 if passing(day_going(race), race.crossings[c])[minute] > 0 else 0]


def tell_may_cross(race, c, minute):
    if c >= len(race.crossings):
        return [NO_SUCH]
    if minute >= race.minutes:
        return [NOT_AS_TOLD]
    return [1 if may_cross(race, c)[minute] else 0]


def tell_first_minute(race, c, minute):
    if c >= len(race.crossings):
        return [NO_SUCH]
    if minute >= race.minutes:
        return [NOT_AS_TOLD]
    return [first_minutes(may_cross(race, c))[minute]]


def tell_shuts(race, c):
    if c >= len(race.crossings):
        return [NO_SUCH]
    spans = shut_spans(may_cross(race, c))
    told = [len(spans)]
    for span in spans:
        told.extend(span)
    return told


def tell_shut_longest(race, c):
    if c >= len(race.crossings):
        return [NO_SUCH]
    return [max([long for first, long in shut_spans(may_cross(race, c))], default=0)]


def tell_held(race, c, most):
    if c >= len(race.crossings):
        return [NO_SUCH]
    if not 1 <= most <= LONGEST_MOST:
        return [NOT_AS_TOLD]
    minutes = hold_minutes(shut_spans(may_cross(race, c)), most, race.gap)
    return [len(minutes)] + minutes


def tell_least_most(race, c, holds):
    if c >= len(race.crossings):
        return [NO_SUCH]
    return [least_most(shut_spans(may_cross(race, c)), holds, race.gap)]


def tell_marshals(race):
    return [shut_at_once(each_may_cross(race), race.minutes)]


def tell_duties(race):
    duties = with_marshals(in_order([shut_spans(may) for may in each_may_cross(race)]))
    told = [len(duties)]
    for duty in duties:
        told.extend(duty)
    return told


CROSSING_CALLS = {
    39: tell_runs,
    40: tell_may_cross,
    41: tell_first_minute,
    42: tell_shuts,
    43: tell_shut_longest,
    44: tell_held,
    45: tell_least_most,
    46: tell_marshals,
    47: tell_duties,
}
