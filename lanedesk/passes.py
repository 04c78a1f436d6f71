"""Passes: what is heard while the fader moves."""

from lanedesk.levels import GAIN_AS_IT_CAME, GLIDE_STEPS, between, held_gain, rounded

# Mode 0 reads: what is heard is what the lane says, and so it is in the others where nothing else is told.
TOUCH_MODE = 1
LATCH_MODE = 2
WRITE_MODE = 3
TRIM_MODE = 4

# Of each event: its tick, what (1 for a touch, 0 for letting go), and the gain that a touch moves the fader to.
EVENT_NUMBERS = 3
MOST_EVENT_NUMBERS = 192
TOUCHED = 1

LONGEST_WAY_BACK = 16


# The fader moves on event by event, so it keeps what the way back and latching ask of the events before.
class Fader:
    def __init__(self, level):
        self.level = held_gain(level)
        self.was_touched = False
        self.is_held = False
        self.let_go = None

    def take(self, tick, what, level):
        """Lets one event count."""
        if what == TOUCHED:
            self.level = held_gain(level)
            self.was_touched = True
            self.is_held = True
        elif self.is_held:
            # Letting go of what isn't held begins no way back, nor does it begin one again.
            self.is_held = False
            self.let_go = tick


def fader_at(tick, level, e):
    """The fader at a tick, that tick's own events among those that count, if it stood at level as the pass began."""
    fader = Fader(level)
    for place in range(0, len(e), EVENT_NUMBERS):
        if e[place] <= tick:
            fader.take(e[place], e[place + 1], e[place + 2])
    return fader


def touch_gain(back, tick, old, fader):
    """What is heard in touch mode at a tick where the lane says old."""
    if fader.is_held:
        return fader.level
    if fader.let_go is None or tick - fader.let_go >= back:
        return old
    return between(fader.level, old, GLIDE_STEPS * (tick - fader.let_go + 1) // (back + 1))


def gain_heard(mode, back, gain, e, tick, old):
    """What is heard at a tick of a pass where the lane says old."""
    fader = fader_at(tick, gain, e)
    if mode == TOUCH_MODE:
        return touch_gain(back, tick, old, fader)
    if mode == WRITE_MODE or (mode == LATCH_MODE and fader.was_touched):
        return fader.level
    if mode == TRIM_MODE:
        return held_gain(rounded(old * fader.level, GAIN_AS_IT_CAME))
    return old


def are_events(a, b, e):
    """Whether e has nothing but events of a pass from tick a to tick b, three numbers each."""
    if len(e) % EVENT_NUMBERS != 0:
        return False
    earliest = a
    for place in range(0, len(e), EVENT_NUMBERS):
        if e[place] < earliest or e[place] >= b or e[place + 1] > TOUCHED:
            return False
        earliest = e[place]
    return True


def event_ticks(back, e):
    """The ticks at which an event, or the way back behind it, may change what is heard."""
    ticks = []
    for place in range(0, len(e), EVENT_NUMBERS):
        # The way back's last tick is followed by one that says what the lane says again.
        ticks.extend([e[place] + i for i in range(back + 1)])
    return ticks
