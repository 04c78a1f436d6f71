"""A lane's bytes, their faults, and the points (tick, gain) that they tell."""

LEAST_TICK = 1
GREATEST_TICK = 16777215
TICKS_END = 16777216
MOST_POINTS = 64

# A lane's bytes: a head of the first gain and how many points, then each point's tick and gain.
GAIN_BYTES = 2
COUNT_PLACE = 2
COUNT_BYTES = 2
HEAD_BYTES = 4
TICK_BYTES = 4
POINT_BYTES = 6

BYTES_END = 1
NUMBER_OUT_OF_BOUNDS = 2
NOT_ANOTHER = 3
BYTES_LEFT_OVER = 4


def two_bytes(l, place):
    """The number whose two bytes stand at place, the lowest first."""
    return l[place] + 256 * l[place + 1]


def four_bytes(l, place):
    """The number whose four bytes stand at place, the lowest first."""
    return two_bytes(l, place) + 65536 * two_bytes(l, place + 2)


def point_fault(l, place, tick_before, gain_before):
    """The first fault (kind, place) of the point whose bytes are due at place, None if it has none."""
    # Each number is looked at before the next one's bytes are missed.
    if len(l) < place + TICK_BYTES:
        return [BYTES_END, len(l)]
    tick = four_bytes(l, place)
    if tick < LEAST_TICK or tick > GREATEST_TICK:
        return [NUMBER_OUT_OF_BOUNDS, place]
    if tick <= tick_before:
        return [NOT_ANOTHER, place]
    if len(l) < place + POINT_BYTES:
        return [BYTES_END, len(l)]
    if two_bytes(l, place + TICK_BYTES) == gain_before:
        return [NOT_ANOTHER, place + TICK_BYTES]
    return None


def lane_fault(l):
    """The first fault (kind, place) of a lane's bytes, None if they have none."""
    if len(l) < HEAD_BYTES:
        return [BYTES_END, len(l)]
    many = two_bytes(l, COUNT_PLACE)
    if many > MOST_POINTS:
        return [NUMBER_OUT_OF_BOUNDS, COUNT_PLACE]
    end = HEAD_BYTES + POINT_BYTES * many
    tick_before = 0
    gain_before = two_bytes(l, 0)
    for place in range(HEAD_BYTES, end, POINT_BYTES):
        fault = point_fault(l, place, tick_before, gain_before)
        if fault is not None:
            return fault
        tick_before = four_bytes(l, place)
        gain_before = two_bytes(l, place + TICK_BYTES)
    if len(l) > end:
        return [BYTES_LEFT_OVER, end]
    return None


def points_of(l):
    """The points (tick, gain) of a lane whose bytes have no fault."""
    # The first gain stands before them as a point at tick 0, so that each tick has a point that isn't behind it.
    points = [(0, two_bytes(l, 0))]
    for place in range(HEAD_BYTES, len(l), POINT_BYTES):
        points.append((four_bytes(l, place), two_bytes(l, place + TICK_BYTES)))
    return points


def gain_at(points, tick):
    """What a lane of these points says at a tick."""
    return [point[1] for point in points if point[0] <= tick][-1]


def ticks_of(points):
    """The points' ticks, the first gain's 0 among them."""
    return [point[0] for point in points]


def lane_ticks(ticks):
    """Those of the ticks that a lane's points may stand at, or its first gain, each once, in their order."""
    return [tick for tick in sorted(set(ticks)) if 0 <= tick <= GREATEST_TICK]


def fewest(points):
    """The points without those that say what the one before says already."""
    return [points[i] for i in range(len(points)) if i == 0 or points[i][1] != points[i - 1][1]]


def low_first(number, many):
    """The number's bytes, so many of them, the lowest first."""
    told = []
    rest = number
    for place in range(many):
        told.append(rest % 256)
        rest = rest // 256
    return told


def bytes_of(points):
    """The bytes of the lane of these points, the first of which is the first gain's, at tick 0."""
    told = low_first(points[0][1], GAIN_BYTES) + low_first(len(points) - 1, COUNT_BYTES)
    for point in points[1:]:
        told = told + low_first(point[0], TICK_BYTES) + low_first(point[1], GAIN_BYTES)
    return told
