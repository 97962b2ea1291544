"""The calls that tell the tables and their cups, and ask for them."""

from marathonday.cups import carried, least, leasts, missing, steps_over, sums_so_far, wanted
from marathonday.flow import day_going
from marathonday.race import FARTHEST, Table, with_part
from marathonday.refusal import IN_NO_WAY, NO_ROOM, NO_SUCH, NONE_THERE, NOT_AS_TOLD

MOST_TABLES = 5
MOST_DELIVERIES = 6
MOST_TAKEN = 9
MOST_CUPS = 100000


def add_table(race, away, takes, stock):
    if away > FARTHEST or not 1 <= takes <= MOST_TAKEN or stock > MOST_CUPS:
        return [NOT_AS_TOLD]
    if len(race.tables) >= MOST_TABLES:
        return [NO_ROOM]
    race.tables = race.tables + (Table(away, takes, stock, ()),)
    return [len(race.tables) - 1]


def bring_cups(race, k, minute, cups):
    if k >= len(race.tables):
        return [NO_SUCH]
    if minute >= race.minutes or not 1 <= cups <= MOST_CUPS:
        return [NOT_AS_TOLD]
    deliveries = race.tables[k].deliveries
    if len(deliveries) >= MOST_DELIVERIES:
        return [NO_ROOM]
    table = race.tables[k].delivered(deliveries + ((minute, cups),))
    race.tables = with_part(race.tables, k, table)
    return [len(table.deliveries)]


def take_delivery(race, k):
    if k >= len(race.tables):
        return [NO_SUCH]
    deliveries = race.tables[k].deliveries
    if not deliveries:
        return [NONE_THERE]
    race.tables = with_part(race.tables, k, race.tables[k].delivered(deliveries[:-1]))
    return [deliveries[-1][1]]


def set_stock(race, k, cups):
    if k >= len(race.tables):
        return [NO_SUCH]
    if cups > MOST_CUPS:
        return [NOT_AS_TOLD]
    table = race.tables[k]
    race.tables = with_part(race.tables, k, table.stocked(cups))
    return [table.stock]


def level_tables(race):
    needs = leasts(race.tables, day_going(race))
    gaps = carried(race.tables, needs)
    if gaps is None:
        return [IN_NO_WAY]
    race.tables = tuple([table.stocked(need) for table, need in zip(race.tables, needs)])
    return [steps_over(gaps)]


def tell_wants(race, k, minute):
    if k >= len(race.tables):
        return [NO_SUCH]
    if minute >= race.minutes:
        return [NOT_AS_TOLD]
    wants = wanted(race.tables[k], day_going(race))
    return [wants[minute], sums_so_far(wants)[minute]]


def tell_there(race, k, minute):
    if k >= len(race.tables):
        return [NO_SUCH]
    if minute >= race.minutes:
        return [NOT_AS_TOLD]
    table = race.tables[k]
    return [0, table.stock - missing(table, day_going(race))[minute]]


def tell_least(race, k):
    if k >= len(race.tables):
        return [NO_SUCH]
    return [least(race.tables[k], day_going(race))]


TABLE_CALLS = {
    7: add_table,
    8: bring_cups,
    9: take_delivery,
    10: set_stock,
    11: level_tables,
    29: tell_wants,
    30: tell_there,
    31: tell_least,
}
