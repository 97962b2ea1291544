"""The calls that ask whether there are enough cups, and how few would do."""

from marathonday.cups import carried, filled_minutes, first_short, is_enough, latest_minute
from marathonday.cups import least, leasts, needed_together, short_tables, steps_over, wanted
from marathonday.flow import day_going, day_going_by
from marathonday.refusal import IN_NO_WAY, NO_SUCH, NONE_THERE, NOT_AS_TOLD
from marathonday.start import is_wide
from marathonday.tables import MOST_CUPS

WIDEST_ASKED = 100


def tell_short(race, k):
    if k >= len(race.tables):
        return [NO_SUCH]
    table = race.tables[k]
    goes = day_going(race)
    if is_enough(table, goes):
        return [NONE_THERE]
    return [first_short(table, goes), least(table, goes) - table.stock]


def tell_enough(race):
    short = short_tables(race.tables, day_going(race))
    return [len(short)] + short


def tell_apart(race):
    needs = leasts(race.tables, day_going(race))
    return [sum(needs)] + needs


def tell_together(race):
    stand = sum([table.stock for table in race.tables])
    return [needed_together(race.tables, day_going(race)), stand]


def tell_latest(race, k, cups):
    if k >= len(race.tables):
        return [NO_SUCH]
    if not 1 <= cups <= MOST_CUPS:
        return [NOT_AS_TOLD]
    minute = latest_minute(race.tables[k], day_going(race), cups)
    return [IN_NO_WAY] if minute is None else [minute]


def tell_fewest(race, k, holds):
    if k >= len(race.tables):
        return [NO_SUCH]
    table = race.tables[k]
    if holds > MOST_CUPS or holds < table.stock:
        return [NOT_AS_TOLD]
    wants = wanted(table, day_going(race))
    if max(wants) > holds:
        return [IN_NO_WAY]
    minutes = filled_minutes(wants, table.stock, holds)
    return [len(minutes)] + minutes


def tell_steps(race):
    gaps = carried(race.tables, leasts(race.tables, day_going(race)))
    if gaps is None:
        return [IN_NO_WAY]
    return [steps_over(gaps)] + gaps


def tell_cups_if(race, wide):
    if not is_wide(wide):
        return [NOT_AS_TOLD]
    needs = leasts(race.tables, day_going_by(race, wide))
    return [sum(needs)] + needs


def widest_enough(race, widest):
    """The widest narrow, up to this one, by which there are enough at each table (0: by none)."""
    # A wider narrow never needs fewer cups, so the search can be halved each time.
    low = 0
    high = widest
    while low < high:
        middle = (low + high + 1) // 2
        if short_tables(race.tables, day_going_by(race, middle)):
            high = middle - 1
        else:
            low = middle
    return low


def tell_widest(race, widest):
    if not 1 <= widest <= WIDEST_ASKED:
        return [NOT_AS_TOLD]
    wide = widest_enough(race, widest)
    return [IN_NO_WAY] if wide == 0 else [wide]


SUPPLY_CALLS = {
    32: tell_short,
    33: tell_enough,
    34: tell_apart,
    35: tell_together,
    36: tell_latest,
    37: tell_fewest,
    38: tell_steps,
    55: tell_cups_if,
    56: tell_widest,
}
