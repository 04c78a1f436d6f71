"""What the document says, told a second time over exact fractions, and the bounds that tests share."""

from fractions import Fraction

LEAST = -8388608
GREATEST = 8388607
LEAST_SIGNED = -9223372036854775808
GREATEST_SIGNED = 9223372036854775807
GREATEST_NUMBER = 18446744073709551615

GAINS = [0, 1, 2, 3, 8191, 8192, 8193, 16383, 16384, 16385, 24576, 32767, 32768, 49152, 49664,
         65534, 65535, 65536, 65537, 2 ** 32, 2 ** 63, GREATEST_NUMBER]

SAMPLES = [LEAST_SIGNED, LEAST_SIGNED + 1, -(2 ** 32), LEAST - 2, LEAST - 1, LEAST, LEAST + 1,
           -5592406, -5592405, -4194304, -2767376, -2097152, -16384, -7, -5, -3, -2, -1,
           0, 1, 2, 3, 5, 7, 16384, 2097152, 2767376, 4194304, 5592405, 5592406,
           GREATEST - 1, GREATEST, GREATEST + 1, GREATEST + 2, 2 ** 32, GREATEST_SIGNED - 1, GREATEST_SIGNED]


class FixedList(list):
    """A list that refuses to be changed, so that a change for a while is seen too."""

    def refuse(self, *args, **kwargs):
        raise AssertionError("what was handed in was changed")

    append = clear = extend = insert = pop = remove = reverse = sort = refuse
    __setitem__ = __delitem__ = __iadd__ = __imul__ = refuse


def kept(sample):
    if sample > GREATEST:
        return GREATEST
    if sample < LEAST:
        return LEAST
    return sample


def counted(gain):
    return 65535 if gain > 65535 else gain


def told(exact):
    """The answer for exact fractions of samples: round() takes the even one of two as near."""
    nearest = [round(Fraction(one)) for one in exact]
    clips = [place for place, one in enumerate(nearest) if one < LEAST or one > GREATEST]
    numbers = [kept(one) for one in nearest] + [len(clips), (clips + [len(exact)])[0]]
    return [len(exact), 0, len(numbers)] + numbers


def times(g, x):
    if len(x) > 256:
        return [-2, 0, 0]
    return told([Fraction(kept(one) * counted(g), 16384) for one in x])


def glide(start, u, v, x):
    if len(x) > 256:
        return [-2, 0, 0]
    if start > 64 or start + len(x) > 65:
        return [-1, 0, 0]
    exact = []
    for step, one in enumerate(x, start):
        gain = round(Fraction(counted(u) * (64 - step) + counted(v) * step, 64))
        exact.append(Fraction(kept(one) * gain, 16384))
    return told(exact)


def mix(n, x, g):
    if n > 256 or len(g) > 16:
        return [-2, 0, 0]
    if not g:
        return [-1, 0, 0]
    if len(x) != n * len(g):
        return [-5, 0, 0]
    rows = [x[k * n:(k + 1) * n] for k in range(len(g))]
    return told([sum(Fraction(kept(row[i]) * counted(gain), 16384) for row, gain in zip(rows, g))
                 for i in range(n)])


def peak(x):
    if len(x) > 256:
        return [-2, 0, 0]
    greatest, many, first = 0, 0, 0
    for place, one in enumerate(x):
        distance = kept(one) if one > 0 else -kept(one)
        if many == 0 or distance > greatest:
            greatest, many, first = distance, 1, place
        elif distance == greatest:
            many += 1
    return [len(x), 0, 3, greatest, many, first]


# Of each straight line of the curve: its last position, where it begins, and how much it rises a position.
LINES = [(128, 0, 0, Fraction(1, 2)), (256, 128, 64, Fraction(7, 2)), (512, 256, 512, Fraction(14)),
         (768, 512, 4096, Fraction(48)), (1023, 768, 16384, Fraction(49151, 255))]


def curve(p):
    """The exact value of the curve at a position, reckoned from each line's slope."""
    for last, position, gain, slope in LINES:
        if p <= last:
            return gain + slope * (p - position)
    raise ValueError(p)


FADER = [round(curve(p)) for p in range(1024)]


def gain(p):
    return [-1, 0, 0] if p > 1023 else [FADER[p], 0, 0]


def position(g):
    return [max(p for p in range(1024) if FADER[p] <= counted(g)), 0, 0]


def pan(p):
    return [0, 0, 2, 8192 - 128 * p, 8192 + 128 * p] if abs(p) <= 64 else [-1, 0, 0]


def lane(first, points=(), many=None):
    """The bytes of a first gain and points (tick, gain), right or not; many is told in the place of how many."""
    count = len(points) if many is None else many
    told_bytes = first.to_bytes(2, "little") + count.to_bytes(2, "little")
    for tick, level in points:
        told_bytes += tick.to_bytes(4, "little") + level.to_bytes(2, "little")
    return list(told_bytes)


SIXTY_FOUR = [(10 * number, number) for number in range(1, 65)]
FULL = lane(0, SIXTY_FOUR)

# Bytes that have a fault, its kind and its place.
FAULTS = [([], 1, 0), (lane(9, [(5, 8)])[:9], 1, 9), (lane(9, [], 65), 2, 2), (lane(9, [(0, 8)]), 2, 4),
          (lane(9, [(16777216, 8)]), 2, 4), (lane(9, [(5, 8), (5, 7)]), 3, 10), (lane(9, [(5, 9)]), 3, 8),
          (lane(9, [(5, 8)]) + [0], 4, 10)]


class Fault(Exception):
    """The first fault of a lane's bytes: its kind and place."""


class Reader:
    """Takes numbers from the front of bytes."""

    def __init__(self, handed):
        self.handed = bytes(handed)
        self.place = 0

    def number(self, many):
        taken = self.handed[self.place:self.place + many]
        if len(taken) < many:
            raise Fault(1, len(self.handed))
        self.place += many
        return int.from_bytes(taken, "little")

    def bounded(self, many, least, greatest):
        number = self.number(many)
        if not least <= number <= greatest:
            raise Fault(2, self.place - many)
        return number


def read_lane(handed):
    """The first gain and the points that bytes tell."""
    reader = Reader(handed)
    first = reader.number(2)
    points = []
    for _ in range(reader.bounded(2, 0, 64)):
        tick = reader.bounded(4, 1, 16777215)
        if points and points[-1][0] >= tick:
            raise Fault(3, reader.place - 4)
        level = reader.number(2)
        if level == (points[-1][1] if points else first):
            raise Fault(3, reader.place - 2)
        points.append((tick, level))
    if reader.place < len(handed):
        raise Fault(4, reader.place)
    return first, points


def of_lane(handed, answer):
    """What answer makes of the lane that bytes tell, or the refusal of bytes that tell none."""
    if len(handed) > 1024:
        return [-2, 0, 0]
    try:
        first, points = read_lane(handed)
    except Fault as fault:
        return [-6, 0, 2] + list(fault.args)
    return answer(first, points)


def judge(handed):
    return of_lane(handed, lambda first, points:
                   [0, 0, 3, first, len(points), max([tick for tick, level in points], default=0)])


def said(first, points, tick):
    """What a lane says at a tick."""
    level = first
    for begin, other in points:
        if begin > tick:
            break
        level = other
    return level


def at(tick, handed):
    return of_lane(handed, lambda first, points: [said(first, points, tick), 0, 0])


def row(tick, n, handed):
    if n > 256:
        return [-2, 0, 0]
    return of_lane(handed, lambda first, points:
                   [n, 0, n] + [said(first, points, one) for one in range(tick, tick + n)])


def bytes_told(told_bytes):
    """The answer that tells these bytes."""
    return [len(told_bytes), len(told_bytes)] + told_bytes + [0]


def lane_told(first, points=()):
    """The answer that tells the bytes of a lane."""
    return bytes_told(lane(first, points))


def all_said(l, reach):
    """What a lane says at each tick below reach."""
    first, points = read_lane(l)
    return [said(first, points, tick) for tick in range(reach)]


def lane_saying(says, marks):
    """The answer of the lane that says says(tick) at each tick, which changes at marks or soon behind them alone."""
    ticks = {tick for mark in marks for tick in range(mark - 1, mark + 19) if 0 < tick < 16777216}
    first = last = says(0)
    points = []
    for tick in sorted(ticks):
        level = says(tick)
        if level != last:
            points.append((tick, level))
            last = level
    return [-3, 0, 0] if len(points) > 64 else lane_told(first, points)


def touch(tick, level):
    return [tick, 1, level]


def let_go(tick, level=0):
    return [tick, 0, level]


def events(e):
    return [tuple(e[place:place + 3]) for place in range(0, len(e), 3)]


def sounding(mode, back, begin, e, tick, old):
    """What's heard at a tick of a pass, from the events so far alone."""
    so_far = [event for event in events(e) if event[0] <= tick]
    touches = [counted(level) for when, what, level in so_far if what == 1]
    fader = (touches or [counted(begin)])[-1]
    if mode == 0 or mode == 2 and not touches:
        return old
    if mode == 2 or mode == 3:
        return fader
    if mode == 4:
        return min(round(Fraction(old * fader, 16384)), 65535)
    if so_far and so_far[-1][1] == 1:
        return fader
    ends = [one[0] for before, one in zip(so_far, so_far[1:]) if before[1] == 1 and one[1] == 0]
    if ends and tick - ends[-1] < back:
        step = int(Fraction(64 * (tick - ends[-1] + 1), back + 1))
        return round(Fraction(fader * (64 - step) + old * step, 64))
    return old


def is_pass(a, b, mode, back, e):
    if not (a <= b <= 16777216 and mode in range(5) and back in range(17) and len(e) % 3 == 0):
        return False
    ticks = [tick for tick, what, level in events(e)]
    return (ticks == sorted(ticks) and all(a <= tick < b for tick in ticks)
            and all(what in (0, 1) for tick, what, level in events(e)))


def pass_of(a, b, mode, back, gain, handed, e):
    if len(e) > 192:
        return [-2, 0, 0]

    def answer(first, points):
        if not is_pass(a, b, mode, back, e):
            return [-1, 0, 0]

        def says(tick):
            old = said(first, points, tick)
            return sounding(mode, back, gain, e, tick, old) if a <= tick < b else old
        return lane_saying(says, [a, b] + [tick for tick, level in points] + e[::3])
    return of_lane(handed, answer)


def heard(a, b, mode, back, gain, tick, handed, e):
    if len(e) > 192:
        return [-2, 0, 0]

    def answer(first, points):
        if not is_pass(a, b, mode, back, e) or not a <= tick < b:
            return [-1, 0, 0]
        return [sounding(mode, back, gain, e, tick, said(first, points, tick)), 0, 0]
    return of_lane(handed, answer)


def of_pieces(pieces):
    """The answer of the lane that says each piece's gain from its tick on; of several at a tick the last counts."""
    levels = {}
    for tick, level in pieces:
        if tick < 16777216:
            levels[tick] = level
    first = last = levels.pop(0)
    points = []
    for tick in sorted(levels):
        if levels[tick] != last:
            last = levels[tick]
            points.append((tick, last))
    return [-3, 0, 0] if len(points) > 64 else lane_told(first, points)


def paste(start, many, to, l, k):
    if len(l) > 1024 or len(k) > 1024:
        return [-2, 0, 0]
    try:
        first, points = read_lane(l)
    except Fault as fault:
        return [-6, 0, 2] + list(fault.args)
    try:
        other, others = read_lane(k)
    except Fault as fault:
        return [-6, 0, 2, fault.args[0] + 16, fault.args[1]]
    if max(start, to) + many > 16777216:
        return [-1, 0, 0]
    pieces = [(0, first)] + [point for point in points if point[0] < to]
    pieces += [(to, said(other, others, start))]
    pieces += [(tick + to - start, level) for tick, level in others if start < tick < start + many]
    pieces += [(to + many, said(first, points, to + many))]
    return of_pieces(pieces + [point for point in points if point[0] > to + many])


def cut(start, many, handed):
    def answer(first, points):
        if start + many > 16777216:
            return [-1, 0, 0]
        pieces = [(0, first)] + [point for point in points if point[0] < start]
        pieces += [(start, said(first, points, start + many))]
        return of_pieces(pieces + [(tick - many, level) for tick, level in points if tick > start + many])
    return of_lane(handed, answer)


def open_of(start, many, handed):
    def answer(first, points):
        if start + many > 16777216:
            return [-1, 0, 0]
        pieces = [(0, first)] + [point for point in points if point[0] <= start]
        return of_pieces(pieces + [(tick + many, level) for tick, level in points if tick > start])
    return of_lane(handed, answer)


def a_lane(source, base=0, reach=40, most=8):
    """The bytes of a right lane with points from a base on."""
    many = source.choice([0, 1, most, source.randint(0, most)])
    highest = source.choice([2, 300, 65535])
    first = last = source.randint(0, highest)
    points = []
    for tick in sorted(source.sample(range(max(base, 1), min(base + reach, 16777216)), many)):
        last = source.choice([level for level in (last - 1, last + 1, highest) if 0 <= level <= 65535 and level != last])
        points.append((tick, last))
    return lane(first, points)


def a_pass(source, base=0, reach=40):
    """The numbers a, b, mode, back, gain and the events of a right pass from a base on."""
    a = min(source.choice([base, source.randint(base, base + reach)]), 16777216)
    b = min(source.choice([a, a + 1, a + reach, source.randint(a, a + reach)]), 16777216)
    e = []
    if a < b:
        for tick in sorted(source.randrange(a, b) for _ in range(source.choice([0, 1, 2, 3, 6]))):
            level = source.choice([0, 1, 16384, 16385, 65535, 65536, GREATEST_NUMBER, source.randint(0, 65535)])
            e += [tick, source.randint(0, 1), level]
    begin = source.choice([0, 1, 8192, 16384, 49152, 65535, 65536, GREATEST_NUMBER, source.randint(0, 65535)])
    return a, b, source.randint(0, 4), source.choice([0, 1, 2, 3, 7, 15, 16]), begin, e


def some_points(source):
    """Points of a lane, mostly right ones; now and then a number among them is spoilt."""
    reach = source.choice([3, 8, 300, 16777215])
    many = source.choice([0, 1, 2, 3] if reach < 64 else [0, 1, 2, 3, 5, 64])
    ticks = sorted(source.sample(range(1, reach + 1), many))
    points = [(tick, source.randint(0, source.choice([2, 300, 65535]))) for tick in ticks]
    if points and source.randint(0, 2) == 0:
        place = source.randrange(many)
        tick = source.choice([0, 1, ticks[place - 1], reach, 16777215, 16777216, 2 ** 32 - 1])
        points[place] = (tick, source.choice([points[place - 1][1], 0, 65535]))
    return points


def spoilt_lanes(source, many):
    """Bytes of lanes, right ones among them, many with bytes that are gone, spoilt or left over."""
    for _ in range(many):
        points = some_points(source)
        count = source.choice([len(points)] * 7 + [64, 65, len(points) + 1, max(len(points) - 1, 0)])
        told_bytes = lane(source.randint(0, 3), points, count)
        spoil = source.randint(0, 5)
        if spoil == 0:
            told_bytes = told_bytes[:source.randint(0, len(told_bytes))]
        if spoil == 1:
            told_bytes = told_bytes + [source.randint(0, 255) for _ in range(source.choice([1, 2, 5, 6, 7]))]
        if spoil == 2:
            told_bytes[source.randrange(len(told_bytes))] = source.choice([0, 1, 255])
        yield told_bytes
