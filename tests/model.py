"""What the document says, told a second time over exact fractions, and the bounds that tests share."""

from fractions import Fraction

LEAST = -8388608
GREATEST = 8388607
LEAST_SIGNED = -9223372036854775808
GREATEST_SIGNED = 9223372036854775807
GREATEST_NUMBER = 18446744073709551615

GAINS = [0, 1, 2, 3, 8191, 8192, 8193, 16383, 16384, 16385, 24576, 32767, 32768, 49152, 49664,
         65534, 65535, 65536, 65537, 2 ** 32, 2 ** 63, GREATEST_NUMBER]

SAMPLES = [LEAST_SIGNED, LEAST_SIGNED + 1, -(2 ** 32), LEAST - 2, LEAST - 1, LEAST, LEAST + 1,
           -5592406, -5592405, -4194304, -2767376, -2097152, -16384, -7, -5, -3, -2, -1,
           0, 1, 2, 3, 5, 7, 16384, 2097152, 2767376, 4194304, 5592405, 5592406,
           GREATEST - 1, GREATEST, GREATEST + 1, GREATEST + 2, 2 ** 32, GREATEST_SIGNED - 1, GREATEST_SIGNED]


class FixedList(list):
    """A list that refuses to be changed, so that a change for a while is seen too."""

    def refuse(self, *args, **kwargs):
        raise AssertionError("what was handed in was changed")

    append = clear = extend = insert = pop = remove = reverse = sort = refuse
    __setitem__ = __delitem__ = __iadd__ = __imul__ = refuse


def kept(sample):
    if sample > GREATEST:
        return GREATEST
    if sample < LEAST:
        return LEAST
    return sample


def counted(gain):
    return 65535 if gain > 65535 else gain


def told(exact):
    """The answer for exact fractions of samples: round() takes the even one of two as near."""
    nearest = [round(Fraction(one)) for one in exact]
    clips = [place for place, one in enumerate(nearest) if one < LEAST or one > GREATEST]
    numbers = [kept(one) for one in nearest] + [len(clips), (clips + [len(exact)])[0]]
    return [len(exact), 0, len(numbers)] + numbers


def times(g, x):
    if len(x) > 256:
        return [-2, 0, 0]
    return told([Fraction(kept(one) * counted(g), 16384) for one in x])


def glide(start, u, v, x):
    if len(x) > 256:
        return [-2, 0, 0]
    if start > 64 or start + len(x) > 65:
        return [-1, 0, 0]
    exact = []
    for step, one in enumerate(x, start):
        gain = round(Fraction(counted(u) * (64 - step) + counted(v) * step, 64))
        exact.append(Fraction(kept(one) * gain, 16384))
    return told(exact)


def mix(n, x, g):
    if n > 256 or len(g) > 16:
        return [-2, 0, 0]
    if not g:
        return [-1, 0, 0]
    if len(x) != n * len(g):
        return [-5, 0, 0]
    rows = [x[k * n:(k + 1) * n] for k in range(len(g))]
    return told([sum(Fraction(kept(row[i]) * counted(gain), 16384) for row, gain in zip(rows, g))
                 for i in range(n)])


def peak(x):
    if len(x) > 256:
        return [-2, 0, 0]
    greatest, many, first = 0, 0, 0
    for place, one in enumerate(x):
        distance = kept(one) if one > 0 else -kept(one)
        if many == 0 or distance > greatest:
            greatest, many, first = distance, 1, place
        elif distance == greatest:
            many += 1
    return [len(x), 0, 3, greatest, many, first]


# Of each straight line of the curve: its last position, where it begins, and how much it rises a position.
LINES = [(128, 0, 0, Fraction(1, 2)), (256, 128, 64, Fraction(7, 2)), (512, 256, 512, Fraction(14)),
         (768, 512, 4096, Fraction(48)), (1023, 768, 16384, Fraction(49151, 255))]


def curve(p):
    """The exact value of the curve at a position, reckoned from each line's slope."""
    for last, position, gain, slope in LINES:
        if p <= last:
            return gain + slope * (p - position)
    raise ValueError(p)


FADER = [round(curve(p)) for p in range(1024)]


def gain(p):
    return [-1, 0, 0] if p > 1023 else [FADER[p], 0, 0]


def position(g):
    return [max(p for p in range(1024) if FADER[p] <= counted(g)), 0, 0]
