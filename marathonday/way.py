"""The calls that tell how far it is home, and ask who passes where behind the narrow."""

from marathonday.cups import sums_so_far
from marathonday.flow import day_going, passing, starting_in_all
from marathonday.race import FARTHEST
from marathonday.refusal import IN_NO_WAY, NOT_AS_TOLD


def set_home(race, away):
    if away > FARTHEST:
        return [NOT_AS_TOLD]
    before = race.home
    race.home = away
    return [before]


def tell_passing(race, away, minute):
    if away > FARTHEST or minute >= race.minutes:
        return [NOT_AS_TOLD]
    return [passing(day_going(race), away)[minute]]


def home_so_far(race):
    """How many are home behind each minute of the day."""
    return sums_so_far(passing(day_going(race), race.home))


def tell_home_by(race, minute):
    if minute >= race.minutes:
        return [NOT_AS_TOLD]
    return [home_so_far(race)[minute], starting_in_all(race.waves)]


def tell_nth(race, n):
    if n == 0:
        return [NOT_AS_TOLD]
    for minute, many in enumerate(home_so_far(race)):
        if many >= n:
            return [minute]
    return [IN_NO_WAY]


WAY_CALLS = {
    16: set_home,
    28: tell_passing,
    52: tell_home_by,
    53: tell_nth,
}
