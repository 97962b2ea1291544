"""The calls that ask who comes to the narrow, waits there and goes through, and what would be better."""

from marathonday.flow import best_start, clear_by, coming, coming_in_all, gathered, going
from marathonday.flow import held_minutes, least_wide, most_held, total_wait, waiting
from marathonday.refusal import IN_NO_WAY, NO_SUCH, NONE_THERE, NOT_AS_TOLD
from marathonday.start import LAST_START
from marathonday.turns import by_way, crowded, in_turn

LAST_MINUTE = 600
LONGEST_HOLD = 100


def tell_comes(race, minute):
    if minute > LAST_MINUTE:
        return [NOT_AS_TOLD]
    return [coming(race.waves, minute + 1)[minute]]


def tell_waits(race, minute):
    if minute > LAST_MINUTE:
        return [NOT_AS_TOLD]
    return [waiting(coming(race.waves, minute + 1), race.wide)[minute]]


def tell_goes(race, minute):
    if minute > LAST_MINUTE:
        return [NOT_AS_TOLD]
    return [going(coming(race.waves, minute + 1), race.wide)[minute]]


def tell_holds(race, minute):
    if minute > LAST_MINUTE:
        return [NOT_AS_TOLD]
    come = coming(race.waves, minute + 1)
    if come[minute] == 0:
        return [NONE_THERE]
    return [held_minutes(gathered(come, race.wide)[minute], race.wide)]


def tell_longest(race):
    # Who wait grow fewer behind the last minute in which some come, so that is as far as to look.
    waits = waiting(coming_in_all(race.waves), race.wide)
    if not race.waves:
        return [0, 0]
    return [max(waits), waits.index(max(waits))]


def tell_most(race):
    return [most_held(coming_in_all(race.waves), race.wide)]


def tell_total(race):
    come = coming_in_all(race.waves)
    return [total_wait(come, race.wide), sum(come)]


def tell_clear(race):
    return [clear_by(coming_in_all(race.waves), race.wide)]


def tell_least_wide(race, most):
    if most > LONGEST_HOLD:
        return [NOT_AS_TOLD]
    return [least_wide(coming_in_all(race.waves), most)]


def tell_in_turn(race, order):
    if sorted(order) != list(range(len(race.waves))):
        return [NOT_AS_TOLD]
    if crowded(race):
        return [IN_NO_WAY]
    return in_turn(race.waves, order)


def tell_plan(race):
    if crowded(race):
        return [IN_NO_WAY]
    order = by_way(race.waves)
    told = in_turn(race.waves, order)
    return told[:1] + order + told[1:]


def tell_best_start(race, i, last):
    if i >= len(race.waves):
        return [NO_SUCH]
    if last > LAST_START:
        return [NOT_AS_TOLD]
    return best_start(race.waves, i, last, race.wide)


NARROW_CALLS = {
    17: tell_comes,
    18: tell_waits,
    19: tell_goes,
    20: tell_holds,
    21: tell_longest,
    22: tell_most,
    23: tell_total,
    24: tell_clear,
    25: tell_least_wide,
    26: tell_in_turn,
    27: tell_plan,
    54: tell_best_start,
}
