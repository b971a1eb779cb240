"""The start, and the changes that can be taken back and done again."""

from icerink.refusals import NOT_AS_TOLD, NOT_THERE
from icerink.skates import pairs_in_all
from icerink.state import Rink

MOST_BASE = 1000
MOST_EACH = 100
MOST_LEAST = 100000
MOST_ROOM = 500
MOST_BACK = 30


class Desk:
    """Keeps the rink, and how it was or will be on either side of changes.

    earlier holds the rink from ahead of each change that can be taken back,
    later the rink from behind each change that can be done again; the last
    of each list comes next. No rink in a list is ever changed.
    """

    def __init__(self):
        self.rink = Rink(0, 0, 1, 1)
        self.earlier = []
        self.later = []


def note_change(desk, before):
    """A change was made; before is a copy of the rink from ahead of it."""
    desk.earlier.append(before)
    if len(desk.earlier) > MOST_BACK:
        desk.earlier.pop(0)
    desk.later = []


def ir_start(desk, base, each, least, room):
    if base > MOST_BASE or each > MOST_EACH:
        return [NOT_AS_TOLD]
    if least < 1 or least > MOST_LEAST or room < 1 or room > MOST_ROOM:
        return [NOT_AS_TOLD]
    desk.rink = Rink(base, each, least, room)
    desk.earlier = []
    desk.later = []
    return [0]


def ir_back(desk):
    if len(desk.earlier) == 0:
        return [NOT_THERE]
    desk.later.append(desk.rink)
    desk.rink = desk.earlier.pop()
    return [len(desk.earlier)]


def ir_again(desk):
    if len(desk.later) == 0:
        return [NOT_THERE]
    desk.earlier.append(desk.rink)
    desk.rink = desk.later.pop()
    return [len(desk.later)]


def ir_state(desk):
    rink = desk.rink
    pairs = sum([pairs_in_all(size) for size in rink.sizes])
    return [rink.minute, len(rink.machines), len(rink.sessions), pairs, len(desk.earlier), len(desk.later)]
