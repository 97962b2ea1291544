"""Waves at the narrow in turn, none coming before the one ahead has come wholly."""


def crowded(race):
    """Whether in some wave more start in a minute than go through the narrow."""
    return any([wave.many > race.wide for wave in race.waves])


def by_way(waves):
    """The waves' numbers, the shortest way first, of like ones the lesser number."""
    return sorted(range(len(waves)), key=lambda i: (waves[i].way, i))


def in_turn(waves, order):
    """Behind how many minutes the last one has come wholly, then the start of each, in that order."""
    starts = []
    behind = 0
    for i in order:
        first = max(waves[i].way, behind)
        starts.append(first - waves[i].way)
        behind = first + waves[i].length
    return [behind] + starts
