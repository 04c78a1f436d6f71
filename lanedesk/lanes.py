"""The desk's calls: each takes plain values and answers one list of whole numbers."""

LEAST_SAMPLE = -8388608
GREATEST_SAMPLE = 8388607
GREATEST_GAIN = 65535
GAIN_AS_IT_CAME = 16384
GLIDE_STEPS = 64

# The points of the fader's curve: each position stands at the same place as its gain.
CURVE_POSITIONS = (0, 128, 256, 512, 768, 1023)
CURVE_GAINS = (0, 64, 512, 4096, 16384, 65535)
GREATEST_POSITION = 1023

GREATEST_PAN = 64
SHARE_STEP = 128

LEAST_TICK = 1
GREATEST_TICK = 16777215
MOST_POINTS = 64

# A lane's bytes: a head of the first gain and how many points, then each point's tick and gain.
COUNT_PLACE = 2
HEAD_BYTES = 4
TICK_BYTES = 4
POINT_BYTES = 6

MOST_SAMPLES = 256
MOST_ROWS = 16
MOST_LANE_BYTES = 1024

OUT_OF_BOUNDS = -1
TOO_MANY = -2
LENGTHS_DIFFER = -5
NO_LANE = -6

BYTES_END = 1
NUMBER_OUT_OF_BOUNDS = 2
NOT_ANOTHER = 3
BYTES_LEFT_OVER = 4


def rounded(dividend, divisor):
    """The whole number nearest to dividend / divisor (divisor above 0); of two as near the even one."""
    below = dividend // divisor
    # Floor division leaves a rest from 0 up for negative dividends too, so one comparison serves both signs.
    twice_rest = 2 * (dividend % divisor)
    if twice_rest > divisor:
        return below + 1
    if twice_rest == divisor:
        return below + below % 2
    return below


def held(sample):
    """The sample, or the bound that it lies beyond."""
    return max(LEAST_SAMPLE, min(GREATEST_SAMPLE, sample))


def held_gain(handed):
    """The gain that a handed number counts as."""
    return min(GREATEST_GAIN, handed)


def line_value(u, v, step, steps):
    """The value, rounded, of a straight line that goes from u to v in so many steps, at one of them."""
    return rounded(u * (steps - step) + v * step, steps)


def between(u, v, step):
    """The gain that lies so many steps of 64 on from gain u to gain v."""
    return line_value(u, v, step, GLIDE_STEPS)


def curve_gain(p):
    """The gain of a position from 0 to 1,023 on the fader's curve."""
    end = 1
    while CURVE_POSITIONS[end] < p:
        end = end + 1
    begin = end - 1
    steps = CURVE_POSITIONS[end] - CURVE_POSITIONS[begin]
    return line_value(CURVE_GAINS[begin], CURVE_GAINS[end], p - CURVE_POSITIONS[begin], steps)


def answer(number, told):
    """A call's one list: the number, no bytes, how many numbers are told, and they."""
    return [number, 0, len(told)] + told


def refusal(number):
    """A refusal that tells nothing but its number."""
    return answer(number, [])


def samples_answer(products):
    """The answer of samples, each from its exact sum of sample times gain, with what clipped of them."""
    # Rounding comes before holding: a sum that rounds onto a bound has not clipped.
    exact = [rounded(product, GAIN_AS_IT_CAME) for product in products]
    samples = [held(sample) for sample in exact]
    clipped = [place for place in range(len(exact)) if samples[place] != exact[place]]
    first = clipped[0] if len(clipped) > 0 else len(samples)
    return answer(len(samples), samples + [len(clipped), first])


def two_bytes(l, place):
    """The number whose two bytes stand at place, the lowest first."""
    return l[place] + 256 * l[place + 1]


def four_bytes(l, place):
    """The number whose four bytes stand at place, the lowest first."""
    return two_bytes(l, place) + 65536 * two_bytes(l, place + 2)


def point_fault(l, place, tick_before, gain_before):
    """The first fault (kind, place) of the point whose bytes are due at place, None if it has none."""
    # Each number is looked at before the next one's bytes are missed.
    if len(l) < place + TICK_BYTES:
        return [BYTES_END, len(l)]
    tick = four_bytes(l, place)
    if tick < LEAST_TICK or tick > GREATEST_TICK:
        return [NUMBER_OUT_OF_BOUNDS, place]
    if tick <= tick_before:
        return [NOT_ANOTHER, place]
    if len(l) < place + POINT_BYTES:
        return [BYTES_END, len(l)]
    if two_bytes(l, place + TICK_BYTES) == gain_before:
        return [NOT_ANOTHER, place + TICK_BYTES]
    return None


def lane_fault(l):
    """The first fault (kind, place) of a lane's bytes, None if they have none."""
    if len(l) < HEAD_BYTES:
        return [BYTES_END, len(l)]
    many = two_bytes(l, COUNT_PLACE)
    if many > MOST_POINTS:
        return [NUMBER_OUT_OF_BOUNDS, COUNT_PLACE]
    end = HEAD_BYTES + POINT_BYTES * many
    tick_before = 0
    gain_before = two_bytes(l, 0)
    for place in range(HEAD_BYTES, end, POINT_BYTES):
        fault = point_fault(l, place, tick_before, gain_before)
        if fault is not None:
            return fault
        tick_before = four_bytes(l, place)
        gain_before = two_bytes(l, place + TICK_BYTES)
    if len(l) > end:
        return [BYTES_LEFT_OVER, end]
    return None


def lane_refusal(l):
    """The refusal of bytes that tell no lane, None if they tell one."""
    if len(l) > MOST_LANE_BYTES:
        return refusal(TOO_MANY)
    fault = lane_fault(l)
    if fault is not None:
        return answer(NO_LANE, fault)
    return None


def points_of(l):
    """The points (tick, gain) of a lane whose bytes have no fault."""
    # The first gain stands before them as a point at tick 0, so that each tick has a point that isn't behind it.
    points = [(0, two_bytes(l, 0))]
    for place in range(HEAD_BYTES, len(l), POINT_BYTES):
        points.append((four_bytes(l, place), two_bytes(l, place + TICK_BYTES)))
    return points


def gain_at(points, tick):
    """What a lane of these points says at a tick."""
    return [point[1] for point in points if point[0] <= tick][-1]


def times(g, x):
    """Each sample of x by the gain g."""
    if len(x) > MOST_SAMPLES:
        return refusal(TOO_MANY)
    level = held_gain(g)
    return samples_answer([held(sample) * level for sample in x])


def glide(start, u, v, x):
    """Each sample of x by a gain that goes on from u to v, one step of 64 a sample, from step start."""
    if len(x) > MOST_SAMPLES:
        return refusal(TOO_MANY)
    # The first comparison is needed for itself: with no samples, 65 is together not above 65.
    if start > GLIDE_STEPS or start + len(x) > GLIDE_STEPS + 1:
        return refusal(OUT_OF_BOUNDS)
    begin = held_gain(u)
    end = held_gain(v)
    return samples_answer([held(x[i]) * between(begin, end, start + i) for i in range(len(x))])


def mixed_product(place, n, x, levels):
    """The exact sum, over all rows of n samples, of the row's sample at place times the row's gain."""
    return sum([held(x[number * n + place]) * levels[number] for number in range(len(levels))])


def mix(n, x, g):
    """The rows of n samples in x mixed to one row, each by its gain in g."""
    if n > MOST_SAMPLES or len(g) > MOST_ROWS:
        return refusal(TOO_MANY)
    if len(g) == 0:
        return refusal(OUT_OF_BOUNDS)
    if len(x) != n * len(g):
        return refusal(LENGTHS_DIFFER)
    levels = [held_gain(handed) for handed in g]
    return samples_answer([mixed_product(place, n, x, levels) for place in range(n)])


def peak(x):
    """The greatest distance from 0 of a sample of x, how many have it, and the place of the first."""
    if len(x) > MOST_SAMPLES:
        return refusal(TOO_MANY)
    if len(x) == 0:
        return answer(0, [0, 0, 0])
    distances = [abs(held(sample)) for sample in x]
    greatest = max(distances)
    return answer(len(x), [greatest, distances.count(greatest), distances.index(greatest)])


def gain(p):
    """The gain of the fader's position p."""
    if p > GREATEST_POSITION:
        return refusal(OUT_OF_BOUNDS)
    return answer(curve_gain(p), [])


def position(g):
    """The greatest position of the fader whose gain is at most g."""
    level = held_gain(g)
    # Position 0 has gain 0, which no gain is below, so the way down ends there at the latest.
    found = GREATEST_POSITION
    while curve_gain(found) > level:
        found = found - 1
    return answer(found, [])


def pan(p):
    """The left share and the right one of the pan p."""
    if abs(p) > GREATEST_PAN:
        return refusal(OUT_OF_BOUNDS)
    return answer(0, [SHARE_STEP * (GREATEST_PAN - p), SHARE_STEP * (GREATEST_PAN + p)])


def judge(l):
    """The first gain of the lane whose bytes are l, how many points it has, and the last one's tick."""
    refused = lane_refusal(l)
    if refused is not None:
        return refused
    points = points_of(l)
    # Where there is no point the last is the first gain's, at tick 0, which is what's told then.
    return answer(0, [points[0][1], len(points) - 1, points[-1][0]])


def at(tick, l):
    """The gain at a tick of the lane whose bytes are l."""
    refused = lane_refusal(l)
    if refused is not None:
        return refused
    return answer(gain_at(points_of(l), tick), [])
