"""The calls that tell the start: the waves, and how wide the narrow is."""

from marathonday.race import Wave, with_part
from marathonday.refusal import IN_NO_WAY, NO_ROOM, NO_SUCH, NOT_AS_TOLD
from marathonday.turns import by_way, crowded, in_turn

MOST_WAVES = 8
LAST_START = 200
LONGEST_WAVE = 60
MOST_TOGETHER = 1000
LONGEST_WAY = 200
WIDEST = 1000


def is_wide(number):
    """Whether a narrow can be so wide."""
    return 1 <= number <= WIDEST


def add_wave(race, start, length, many, way):
    if start > LAST_START or not 1 <= length <= LONGEST_WAVE:
        return [NOT_AS_TOLD]
    if not 1 <= many <= MOST_TOGETHER or way > LONGEST_WAY:
        return [NOT_AS_TOLD]
    if len(race.waves) >= MOST_WAVES:
        return [NO_ROOM]
    race.waves = race.waves + (Wave(start, length, many, way),)
    return [len(race.waves) - 1]


def shift_wave(race, i, start):
    if i >= len(race.waves):
        return [NO_SUCH]
    if start > LAST_START:
        return [NOT_AS_TOLD]
    wave = race.waves[i]
    race.waves = with_part(race.waves, i, wave.starting(start))
    return [wave.start]


def drop_wave(race, i):
    if i >= len(race.waves):
        return [NO_SUCH]
    race.waves = race.waves[:i] + race.waves[i + 1:]
    return [len(race.waves)]


def set_wide(race, wide):
    if not is_wide(wide):
        return [NOT_AS_TOLD]
    before = race.wide
    race.wide = wide
    return [before]


def set_plan(race):
    if crowded(race):
        return [IN_NO_WAY]
    order = by_way(race.waves)
    waves = list(race.waves)
    for i, start in zip(order, in_turn(race.waves, order)[1:]):
        waves[i] = waves[i].starting(start)
    race.waves = tuple(waves)
    return [len(waves)]


def start_later(race, minutes):
    latest = max([wave.start + minutes for wave in race.waves], default=0)
    if minutes == 0 or latest > LAST_START:
        return [NOT_AS_TOLD]
    race.waves = tuple([wave.starting(wave.start + minutes) for wave in race.waves])
    return [len(race.waves)]


START_CALLS = {
    1: add_wave,
    2: shift_wave,
    3: drop_wave,
    4: set_wide,
    5: set_plan,
    6: start_later,
}
