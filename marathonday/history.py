"""Changes that can be taken back, and be done again."""

from marathonday.refusal import NO_SUCH

MOST_BACK = 10


class Line:
    """What the calls of one list are about: no race till a begin is answered 0.

    past holds the races as they were ahead of each change that can be taken back, ahead those as they were behind
    each change that was taken back; of both the next one to be put in the place of race stands last.
    """

    def __init__(self):
        self.race = None
        self.past = []
        self.ahead = []


def begin_with(line, race):
    """The race that there is from now on, without anything to take back or to do again."""
    line.race = race
    line.past = []
    line.ahead = []


def note_change(line, before):
    """Keeps what was before a call, if something is otherwise now."""
    if line.race.told() != before.told():
        line.past = (line.past + [before])[-MOST_BACK:]
        line.ahead = []


def take_back(line):
    if not line.past:
        return [NO_SUCH]
    line.ahead.append(line.race)
    line.race = line.past.pop()
    return [len(line.past)]


def do_again(line):
    if not line.ahead:
        return [NO_SUCH]
    line.past.append(line.race)
    line.race = line.ahead.pop()
    return [len(line.ahead)]
