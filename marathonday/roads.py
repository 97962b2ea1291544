"""The calls that tell the crossings, the places and the roads between them."""

from marathonday.race import FARTHEST, Road
from marathonday.refusal import NO_ROOM, NO_SUCH, NOT_AS_TOLD

MOST_CROSSINGS = 6
MOST_PLACES = 6
MOST_ROADS = 12
LONGEST_GAP = 8
LONGEST_ROAD = 100


def is_gap(number):
    """Whether a gap can need so many free minutes."""
    return 1 <= number <= LONGEST_GAP


def add_crossing(race, away):
    if away > FARTHEST:
        return [NOT_AS_TOLD]
    if len(race.crossings) >= MOST_CROSSINGS:
        return [NO_ROOM]
    race.crossings = race.crossings + (away,)
    return [len(race.crossings) - 1]


def set_gap(race, gap):
    if not is_gap(gap):
        return [NOT_AS_TOLD]
    before = race.gap
    race.gap = gap
    return [before]


def add_place(race):
    if race.places >= MOST_PLACES:
        return [NO_ROOM]
    race.places += 1
    return [race.places - 1]


def add_road(race, one_end, other_end, long, crossing):
    if one_end >= race.places or other_end >= race.places or crossing > len(race.crossings):
        return [NO_SUCH]
    if one_end == other_end or not 1 <= long <= LONGEST_ROAD:
        return [NOT_AS_TOLD]
    if len(race.roads) >= MOST_ROADS:
        return [NO_ROOM]
    race.roads = race.roads + (Road(one_end, other_end, long, crossing),)
    return [len(race.roads) - 1]


ROAD_CALLS = {
    12: add_crossing,
    13: set_gap,
    14: add_place,
    15: add_road,
}
