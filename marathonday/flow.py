"""How those who come to the narrow wait there, go through it, and pass what lies behind it."""

from marathonday.race import with_part


def all_come_by(waves):
    """Behind how many minutes all have come (0 without waves)."""
    return max([wave.first_comes() + wave.length for wave in waves], default=0)


def coming(waves, minutes):
    """How many come to the narrow in each of so many minutes, from minute 0 on."""
    come = [0] * minutes
    for wave in waves:
        first = wave.first_comes()
        for minute in range(first, min(first + wave.length, minutes)):
            come[minute] += wave.many
    return come


def coming_in_all(waves):
    """How many come in each minute, up to the last one in which some do."""
    return coming(waves, all_come_by(waves))


def starting_in_all(waves):
    """How many start, in all waves."""
    return sum([wave.length * wave.many for wave in waves])


def gathered(come, wide):
    """How many are at the narrow in each minute: those who waited, and those who come."""
    there = []
    wait = 0
    for many in come:
        there.append(wait + many)
        wait = max(0, wait + many - wide)
    return there


def waiting(come, wide):
    """How many wait behind each minute."""
    return [max(0, there - wide) for there in gathered(come, wide)]


def going(come, wide):
    """How many go through in each minute."""
    return [min(there, wide) for there in gathered(come, wide)]


def divided_up(number, by):
    """The number divided, rounded up."""
    return (number + by - 1) // by


def held_minutes(there, wide):
    """For how many minutes the last of those who are there is held."""
    return divided_up(there, wide) - 1


def most_held(come, wide):
    """The most minutes for which anybody is held."""
    there = gathered(come, wide)
    return max([held_minutes(number, wide) for many, number in zip(come, there) if many > 0], default=0)


def left_waiting(come, wide):
    """How many wait behind the last minute of these (0 if there is none)."""
    waits = waiting(come, wide)
    return waits[-1] if waits else 0


def waited_behind(wait, wide):
    """For how many minutes so many wait together from the next minute on, if nobody comes any more."""
    # Up to 480,000 may wait, one going in a minute: summed at once, not minute by minute.
    turns = wait // wide
    return turns * wait - wide * turns * (turns + 1) // 2


def total_wait(come, wide):
    """For how many minutes all wait together; come reaches up to the last minute in which some come."""
    waited = 0
    wait = 0
    for many in come:
        wait = max(0, wait + many - wide)
        waited += wait
    return waited + waited_behind(wait, wide)


def clear_by(come, wide):
    """By how many minutes all are through; come reaches up to the last minute in which some come."""
    return len(come) + divided_up(left_waiting(come, wide), wide)


def least_wide(come, most):
    """The least wide by which nobody is held for more than so many minutes (0 if nobody comes)."""
    # As wide as all who come in any one minute is wide enough, and wider never holds anybody longer.
    low = min(1, len(come))
    high = max(come, default=0)
    while low < high:
        middle = (low + high) // 2
        if most_held(come, middle) <= most:
            high = middle
        else:
            low = middle + 1
    return low


def best_start(waves, i, last, wide):
    """The first start of wave i, up to the last one asked, by which all wait least; then for how long."""
    totals = []
    for start in range(last + 1):
        totals.append(total_wait(coming_in_all(with_part(waves, i, waves[i].starting(start))), wide))
    return [totals.index(min(totals)), min(totals)]


def day_going_by(race, wide):
    """How many go through in each minute of the day, if the narrow is so wide."""
    return going(coming(race.waves, race.minutes), wide)


def day_going(race):
    """How many go through the narrow in each minute of the day."""
    return day_going_by(race, race.wide)


def passing(goes, away):
    """How many pass a point so many minutes behind the narrow, in each of the minutes of goes."""
    return [goes[minute - away] if minute >= away else 0 for minute in range(len(goes))]
