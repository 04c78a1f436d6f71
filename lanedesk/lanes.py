"""The desk's calls: each takes plain values and answers one list of whole numbers."""

from lanedesk.answers import LENGTHS_DIFFER, NO_LANE, OUT_OF_BOUNDS, TOO_MANY, answer, refusal
from lanedesk.levels import GAIN_AS_IT_CAME, GLIDE_STEPS, GREATEST_POSITION
from lanedesk.levels import between, curve_gain, held, held_gain, rounded
from lanedesk.points import gain_at, lane_fault, points_of

MOST_SAMPLES = 256
MOST_ROWS = 16
MOST_LANE_BYTES = 1024

GREATEST_PAN = 64
SHARE_STEP = 128


def samples_answer(products):
    """The answer of samples, each from its exact sum of sample times gain, with what clipped of them."""
    # Rounding comes before holding: a sum that rounds onto a bound has not clipped.
    exact = [rounded(product, GAIN_AS_IT_CAME) for product in products]
    samples = [held(sample) for sample in exact]
    clipped = [place for place in range(len(exact)) if samples[place] != exact[place]]
    first = clipped[0] if len(clipped) > 0 else len(samples)
    return answer(len(samples), samples + [len(clipped), first])


def lane_refusal(l):
    """The refusal of bytes that tell no lane, None if they tell one."""
    if len(l) > MOST_LANE_BYTES:
        return refusal(TOO_MANY)
    fault = lane_fault(l)
    if fault is not None:
        return answer(NO_LANE, fault)
    return None


def times(g, x):
    """Each sample of x by the gain g."""
    if len(x) > MOST_SAMPLES:
        return refusal(TOO_MANY)
    level = held_gain(g)
    return samples_answer([held(sample) * level for sample in x])


def glide(start, u, v, x):
    """Each sample of x by a gain that goes on from u to v, one step of 64 a sample, from step start."""
    if len(x) > MOST_SAMPLES:
        return refusal(TOO_MANY)
    # The first comparison is needed for itself: with no samples, 65 is together not above 65.
    if start > GLIDE_STEPS or start + len(x) > GLIDE_STEPS + 1:
        return refusal(OUT_OF_BOUNDS)
    begin = held_gain(u)
    end = held_gain(v)
    return samples_answer([held(x[i]) * between(begin, end, start + i) for i in range(len(x))])


def mixed_product(place, n, x, levels):
    """The exact sum, over all rows of n samples, of the row's sample at place times the row's gain."""
    return sum([held(x[number * n + place]) * levels[number] for number in range(len(levels))])


def mix(n, x, g):
    """The rows of n samples in x mixed to one row, each by its gain in g."""
    if n > MOST_SAMPLES or len(g) > MOST_ROWS:
        return refusal(TOO_MANY)
    if len(g) == 0:
        return refusal(OUT_OF_BOUNDS)
    if len(x) != n * len(g):
        return refusal(LENGTHS_DIFFER)
    levels = [held_gain(handed) for handed in g]
    return samples_answer([mixed_product(place, n, x, levels) for place in range(n)])


def peak(x):
    """The greatest distance from 0 of a sample of x, how many have it, and the place of the first."""
    if len(x) > MOST_SAMPLES:
        return refusal(TOO_MANY)
    if len(x) == 0:
        return answer(0, [0, 0, 0])
    distances = [abs(held(sample)) for sample in x]
    greatest = max(distances)
    return answer(len(x), [greatest, distances.count(greatest), distances.index(greatest)])


def gain(p):
    """The gain of the fader's position p."""
    if p > GREATEST_POSITION:
        return refusal(OUT_OF_BOUNDS)
    return answer(curve_gain(p), [])


def position(g):
    """The greatest position of the fader whose gain is at most g."""
    level = held_gain(g)
    # Position 0 has gain 0, which no gain is below, so the way down ends there at the latest.
    found = GREATEST_POSITION
    while curve_gain(found) > level:
        found = found - 1
    return answer(found, [])


def pan(p):
    """The left share and the right one of the pan p."""
    if abs(p) > GREATEST_PAN:
        return refusal(OUT_OF_BOUNDS)
    return answer(0, [SHARE_STEP * (GREATEST_PAN - p), SHARE_STEP * (GREATEST_PAN + p)])


def judge(l):
    """The first gain of the lane whose bytes are l, how many points it has, and the last one's tick."""
    refused = lane_refusal(l)
    if refused is not None:
        return refused
    points = points_of(l)
    # Where there is no point the last is the first gain's, at tick 0, which is what's told then.
    return answer(0, [points[0][1], len(points) - 1, points[-1][0]])


def at(tick, l):
    """The gain at a tick of the lane whose bytes are l."""
    refused = lane_refusal(l)
    if refused is not None:
        return refused
    return answer(gain_at(points_of(l), tick), [])
