"""The calls that tell how far it is home, and ask who passes where behind the narrow."""

from marathonday.flow import day_going, passing
from marathonday.race import FARTHEST
from marathonday.refusal import NOT_AS_TOLD


def set_home(race, away):
    if away > FARTHEST:
        return [NOT_AS_TOLD]
    before = race.home
    race.home = away
    return [before]


def tell_passing(race, away, minute):
    if away > FARTHEST or minute >= race.minutes:
        return [NOT_AS_TOLD]
    return [passing(day_going(race), away)[minute]]


WAY_CALLS = {
    16: set_home,
    28: tell_passing,
}
