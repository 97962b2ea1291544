"""A list of calls on one new marathon, and the list of their answers."""

from marathonday.crossings import CROSSING_CALLS
from marathonday.history import Line, begin_with, do_again, note_change, take_back
from marathonday.looks import LOOK_CALLS
from marathonday.narrow import NARROW_CALLS
from marathonday.race import Race
from marathonday.refusal import NOT_AS_TOLD, NOT_BEGUN
from marathonday.roads import ROAD_CALLS, is_gap
from marathonday.start import START_CALLS, is_wide
from marathonday.supply import SUPPLY_CALLS
from marathonday.tables import TABLE_CALLS
from marathonday.trips import TRIP_CALLS
from marathonday.way import WAY_CALLS

BEGIN = 0
IN_TURN = 26
BACK = 61
AGAIN = 62
LONGEST_DAY = 120

# How many whole numbers each call has, by its number; a row is not among them.
SIZES = (
    3, 4, 2, 1, 1, 0, 1, 3, 3, 1, 2, 0, 1, 1, 0, 4,
    1, 1, 1, 1, 1, 0, 0, 0, 0, 1, 0, 0, 2, 2, 2, 1,
    1, 0, 0, 0, 2, 2, 0, 2, 2, 2, 1, 1, 2, 2, 0, 0,
    3, 2, 3, 2, 1, 1, 2, 1, 1, 1, 1, 1, 0, 0, 0, 0,
)


def begin(line, minutes, wide, gap):
    if not 1 <= minutes <= LONGEST_DAY or not is_wide(wide) or not is_gap(gap):
        return [NOT_AS_TOLD]
    begin_with(line, Race(minutes, wide, gap))
    return [0]


def find_doer(number):
    """The function that does the call of this number."""
    if number in START_CALLS:
        return START_CALLS[number]
    if number in NARROW_CALLS:
        return NARROW_CALLS[number]
    if number in TABLE_CALLS:
        return TABLE_CALLS[number]
    if number in SUPPLY_CALLS:
        return SUPPLY_CALLS[number]
    if number in ROAD_CALLS:
        return ROAD_CALLS[number]
    if number in CROSSING_CALLS:
        return CROSSING_CALLS[number]
    if number in TRIP_CALLS:
        return TRIP_CALLS[number]
    if number in WAY_CALLS:
        return WAY_CALLS[number]
    return LOOK_CALLS[number]


def do_call(doer, race, given):
    """What the function answers to what was given, each as a parameter of its own."""
    if len(given) == 0:
        return doer(race)
    if len(given) == 1:
        return doer(race, given[0])
    if len(given) == 2:
        return doer(race, given[0], given[1])
    if len(given) == 3:
        return doer(race, given[0], given[1], given[2])
    return doer(race, given[0], given[1], given[2], given[3])


def answer(line, number, given):
    """What one call answers."""
    if number == BEGIN:
        return begin(line, given[0], given[1], given[2])
    if line.race is None:
        return [NOT_BEGUN]
    if number == BACK:
        return take_back(line)
    if number == AGAIN:
        return do_again(line)
    before = line.race.copied()
    numbers = do_call(find_doer(number), line.race, given)
    note_change(line, before)
    return numbers


def split_calls(calls):
    """Each call's number, and what it is given: its whole numbers, then its row as one list."""
    split = []
    at = 0
    while at < len(calls):
        number = calls[at]
        behind = at + 1 + SIZES[number]
        given = calls[at + 1:behind]
        if number == IN_TURN:
            row = behind + 1
            behind = row + calls[row - 1]
            given.append(calls[row:behind])
        split.append((number, given))
        at = behind
    return split


def answers(calls):
    """For each call how many numbers are answered, and these."""
    line = Line()
    told = []
    for number, given in split_calls(calls):
        numbers = answer(line, number, given)
        told.append(len(numbers))
        told.extend(numbers)
    return told
