"""The calls that tell what is there: a wave, a table, a road, and how much of all."""

from marathonday.cups import wanted
from marathonday.flow import day_going, starting_in_all
from marathonday.refusal import NO_SUCH


def look_wave(race, i):
    if i >= len(race.waves):
        return [NO_SUCH]
    return list(race.waves[i].told())


def look_table(race, k):
    if k >= len(race.tables):
        return [NO_SUCH]
    return list(race.tables[k].told())


def look_road(race, r):
    if r >= len(race.roads):
        return [NO_SUCH]
    return list(race.roads[r].told())


def tell_sums(race):
    goes = day_going(race)
    stand = sum([table.stock for table in race.tables])
    wants = sum([sum(wanted(table, goes)) for table in race.tables])
    return [sum(goes), starting_in_all(race.waves), stand, wants]


def tell_state(race):
    counts = [len(race.tables), len(race.crossings), race.places, len(race.roads)]
    return [race.minutes, len(race.waves), race.wide] + counts + [race.home]


LOOK_CALLS = {
    57: look_wave,
    58: look_table,
    59: look_road,
    60: tell_sums,
    63: tell_state,
}
