"""The desk's calls: each takes plain values and answers one list of whole numbers."""

from lanedesk.answers import LENGTHS_DIFFER, NO_LANE, OUT_OF_BOUNDS, TOO_MANY, TOO_MANY_POINTS
from lanedesk.answers import answer, bytes_answer, refusal
from lanedesk.levels import GAIN_AS_IT_CAME, GLIDE_STEPS, GREATEST_POSITION
from lanedesk.levels import between, curve_gain, held, held_gain, rounded
from lanedesk.passes import LONGEST_WAY_BACK, MOST_EVENT_NUMBERS, TRIM_MODE
from lanedesk.passes import are_events, event_ticks, gain_heard
from lanedesk.points import MOST_POINTS, TICKS_END
from lanedesk.points import bytes_of, fewest, gain_at, lane_fault, lane_ticks, points_of, ticks_of

MOST_SAMPLES = 256
MOST_ROWS = 16
MOST_LANE_BYTES = 1024
MOST_ROW_TICKS = 256

# A fault of the second lane of two has its kind told so much higher.
SECOND_LANE = 16

GREATEST_PAN = 64
SHARE_STEP = 128


def samples_answer(products):
    """The answer of samples, each from its exact sum of sample times gain, with what clipped of them."""
    # Rounding comes before holding: a sum that rounds onto a bound has not clipped.
    exact = [rounded(product, GAIN_AS_IT_CAME) for product in products]
    samples = [held(sample) for sample in exact]
    clipped = [place for place in range(len(exact)) if samples[place] != exact[place]]
    first = clipped[0] if len(clipped) > 0 else len(samples)
    return answer(len(samples), samples + [len(clipped), first])


def lane_refusal(l):
    """The refusal of bytes that tell no lane, None if they tell one."""
    if len(l) > MOST_LANE_BYTES:
        return refusal(TOO_MANY)
    fault = lane_fault(l)
    if fault is not None:
        return answer(NO_LANE, fault)
    return None


def lane_answer(turns):
    """The answer of the lane that says each turn's gain from its tick on till the next; the first is at tick 0."""
    points = fewest(turns)
    if len(points) - 1 > MOST_POINTS:
        return refusal(TOO_MANY_POINTS)
    return bytes_answer(bytes_of(points))


def pass_refusal(a, b, mode, back, l, e):
    """The refusal of what is no pass over a lane, None if it is one."""
    if len(e) > MOST_EVENT_NUMBERS:
        return refusal(TOO_MANY)
    refused = lane_refusal(l)
    if refused is not None:
        return refused
    if a > b or b > TICKS_END or mode > TRIM_MODE or back > LONGEST_WAY_BACK or not are_events(a, b, e):
        return refusal(OUT_OF_BOUNDS)
    return None


def span_refusal(start, many, l):
    """The refusal of bytes that tell no lane, or of many ticks from start on that go beyond all ticks, or None."""
    refused = lane_refusal(l)
    if refused is not None:
        return refused
    if start + many > TICKS_END:
        return refusal(OUT_OF_BOUNDS)
    return None


def paste_refusal(start, many, to, l, k):
    """The refusal of what can't be pasted, None if it can."""
    # That k is too long goes before what is wrong in l.
    if len(k) > MOST_LANE_BYTES:
        return refusal(TOO_MANY)
    refused = lane_refusal(l)
    if refused is not None:
        return refused
    fault = lane_fault(k)
    if fault is not None:
        return answer(NO_LANE, [SECOND_LANE + fault[0], fault[1]])
    if start + many > TICKS_END or to + many > TICKS_END:
        return refusal(OUT_OF_BOUNDS)
    return None


def times(g, x):
    """Each sample of x by the gain g."""
    if len(x) > MOST_SAMPLES:
        return refusal(TOO_MANY)
    level = held_gain(g)
    return samples_answer([held(sample) * level for sample in x])


def glide(start, u, v, x):
    """Each sample of x by a gain that goes on from u to v, one step of 64 a sample, from step start."""
    if len(x) > MOST_SAMPLES:
        return refusal(TOO_MANY)
    # The first comparison is needed for itself: with no samples, 65 is together not above 65.
    if start > GLIDE_STEPS or start + len(x) > GLIDE_STEPS + 1:
        return refusal(OUT_OF_BOUNDS)
    begin = held_gain(u)
    end = held_gain(v)
    return samples_answer([held(x[i]) * between(begin, end, start + i) for i in range(len(x))])


def mixed_product(place, n, x, levels):
    """The exact sum, over all rows of n samples, of the row's sample at place times the row's gain."""
    return sum([held(x[number * n + place]) * levels[number] for number in range(len(levels))])


def mix(n, x, g):
    """The rows of n samples in x mixed to one row, each by its gain in g."""
    if n > MOST_SAMPLES or len(g) > MOST_ROWS:
        return refusal(TOO_MANY)
    if len(g) == 0:
        return refusal(OUT_OF_BOUNDS)
    if len(x) != n * len(g):
        return refusal(LENGTHS_DIFFER)
    levels = [held_gain(handed) for handed in g]
    return samples_answer([mixed_product(place, n, x, levels) for place in range(n)])


def peak(x):
    """The greatest distance from 0 of a sample of x, how many have it, and the place of the first."""
    if len(x) > MOST_SAMPLES:
        return refusal(TOO_MANY)
    if len(x) == 0:
        return answer(0, [0, 0, 0])
    distances = [abs(held(sample)) for sample in x]
    greatest = max(distances)
    return answer(len(x), [greatest, distances.count(greatest), distances.index(greatest)])


def gain(p):
    """The gain of the fader's position p."""
    if p > GREATEST_POSITION:
        return refusal(OUT_OF_BOUNDS)
    return answer(curve_gain(p), [])


def position(g):
    """The greatest position of the fader whose gain is at most g."""
    level = held_gain(g)
    # Position 0 has gain 0, which no gain is below, so the way down ends there at the latest.
    found = GREATEST_POSITION
    while curve_gain(found) > level:
        found = found - 1
    return answer(found, [])


def pan(p):
    """The left share and the right one of the pan p."""
    if abs(p) > GREATEST_PAN:
        return refusal(OUT_OF_BOUNDS)
    return answer(0, [SHARE_STEP * (GREATEST_PAN - p), SHARE_STEP * (GREATEST_PAN + p)])


def judge(l):
    """The first gain of the lane whose bytes are l, how many points it has, and the last one's tick."""
    refused = lane_refusal(l)
    if refused is not None:
        return refused
    points = points_of(l)
    # Where there is no point the last is the first gain's, at tick 0, which is what's told then.
    return answer(0, [points[0][1], len(points) - 1, points[-1][0]])


def at(tick, l):
    """The gain at a tick of the lane whose bytes are l."""
    refused = lane_refusal(l)
    if refused is not None:
        return refused
    return answer(gain_at(points_of(l), tick), [])


def row(tick, n, l):
    """The gains at n ticks from one tick on of the lane whose bytes are l."""
    if n > MOST_ROW_TICKS:
        return refusal(TOO_MANY)
    refused = lane_refusal(l)
    if refused is not None:
        return refused
    points = points_of(l)
    return answer(n, [gain_at(points, tick + i) for i in range(n)])


def pass_of(a, b, mode, back, gain, l, e):
    """The bytes of the lane that says what is heard in a pass from tick a to tick b over the lane of the bytes l."""
    refused = pass_refusal(a, b, mode, back, l, e)
    if refused is not None:
        return refused
    points = points_of(l)
    turns = []
    # A pass may have millions of ticks; what is said changes at these alone.
    for tick in lane_ticks([a, b] + ticks_of(points) + event_ticks(back, e)):
        old = gain_at(points, tick)
        said = gain_heard(mode, back, gain, e, tick, old) if a <= tick < b else old
        turns.append((tick, said))
    return lane_answer(turns)


def heard(a, b, mode, back, gain, tick, l, e):
    """The gain heard at a tick of a pass from tick a to tick b over the lane whose bytes are l."""
    refused = pass_refusal(a, b, mode, back, l, e)
    if refused is not None:
        return refused
    if tick < a or tick >= b:
        return refusal(OUT_OF_BOUNDS)
    return answer(gain_heard(mode, back, gain, e, tick, gain_at(points_of(l), tick)), [])


def paste(start, many, to, l, k):
    """The bytes of the lane of the bytes l that says for many ticks from to on what k's lane says from start on."""
    refused = paste_refusal(start, many, to, l, k)
    if refused is not None:
        return refused
    points = points_of(l)
    pasted = points_of(k)
    moved = [tick - start + to for tick in ticks_of(pasted)]
    turns = []
    for tick in lane_ticks([to, to + many] + ticks_of(points) + moved):
        said = gain_at(pasted, tick - to + start) if to <= tick < to + many else gain_at(points, tick)
        turns.append((tick, said))
    return lane_answer(turns)


def cut(start, many, l):
    """The bytes of the lane of the bytes l without many ticks from start on."""
    refused = span_refusal(start, many, l)
    if refused is not None:
        return refused
    points = points_of(l)
    ticks = ticks_of(points)
    moved = [tick - many for tick in ticks]
    turns = []
    for tick in lane_ticks([start] + ticks + moved):
        stood_at = tick if tick < start else tick + many
        turns.append((tick, gain_at(points, stood_at)))
    return lane_answer(turns)


def open_of(start, many, l):
    """The bytes of the lane of the bytes l with many ticks put in at start, that say what it says at start."""
    refused = span_refusal(start, many, l)
    if refused is not None:
        return refused
    points = points_of(l)
    ticks = ticks_of(points)
    moved = [tick + many for tick in ticks]
    turns = []
    for tick in lane_ticks(ticks + moved):
        # Up to start a tick stands where it stood; those put in ask start, those behind them where they came from.
        stood_at = min(tick, max(start, tick - many))
        turns.append((tick, gain_at(points, stood_at)))
    return lane_answer(turns)
