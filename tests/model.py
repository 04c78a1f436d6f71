"""What the document says, told a second time over exact fractions, and the bounds that tests share."""

from fractions import Fraction

LEAST = -8388608
GREATEST = 8388607
LEAST_SIGNED = -9223372036854775808
GREATEST_SIGNED = 9223372036854775807
GREATEST_NUMBER = 18446744073709551615

GAINS = [0, 1, 2, 3, 8191, 8192, 8193, 16383, 16384, 16385, 24576, 32767, 32768, 49152, 49664,
         65534, 65535, 65536, 65537, 2 ** 32, 2 ** 63, GREATEST_NUMBER]

SAMPLES = [LEAST_SIGNED, LEAST_SIGNED + 1, -(2 ** 32), LEAST - 2, LEAST - 1, LEAST, LEAST + 1,
           -5592406, -5592405, -4194304, -2767376, -2097152, -16384, -7, -5, -3, -2, -1,
           0, 1, 2, 3, 5, 7, 16384, 2097152, 2767376, 4194304, 5592405, 5592406,
           GREATEST - 1, GREATEST, GREATEST + 1, GREATEST + 2, 2 ** 32, GREATEST_SIGNED - 1, GREATEST_SIGNED]


class FixedList(list):
    """A list that refuses to be changed, so that a change for a while is seen too."""

    def refuse(self, *args, **kwargs):
        raise AssertionError("what was handed in was changed")

    append = clear = extend = insert = pop = remove = reverse = sort = refuse
    __setitem__ = __delitem__ = __iadd__ = __imul__ = refuse


def kept(sample):
    if sample > GREATEST:
        return GREATEST
    if sample < LEAST:
        return LEAST
    return sample


def counted(gain):
    return 65535 if gain > 65535 else gain


def told(exact):
    """The answer for exact fractions of samples: round() takes the even one of two as near."""
    nearest = [round(Fraction(one)) for one in exact]
    clips = [place for place, one in enumerate(nearest) if one < LEAST or one > GREATEST]
    numbers = [kept(one) for one in nearest] + [len(clips), (clips + [len(exact)])[0]]
    return [len(exact), 0, len(numbers)] + numbers


def times(g, x):
    if len(x) > 256:
        return [-2, 0, 0]
    return told([Fraction(kept(one) * counted(g), 16384) for one in x])


def glide(start, u, v, x):
    if len(x) > 256:
        return [-2, 0, 0]
    if start > 64 or start + len(x) > 65:
        return [-1, 0, 0]
    exact = []
    for step, one in enumerate(x, start):
        gain = round(Fraction(counted(u) * (64 - step) + counted(v) * step, 64))
        exact.append(Fraction(kept(one) * gain, 16384))
    return told(exact)


def mix(n, x, g):
    if n > 256 or len(g) > 16:
        return [-2, 0, 0]
    if not g:
        return [-1, 0, 0]
    if len(x) != n * len(g):
        return [-5, 0, 0]
    rows = [x[k * n:(k + 1) * n] for k in range(len(g))]
    return told([sum(Fraction(kept(row[i]) * counted(gain), 16384) for row, gain in zip(rows, g))
                 for i in range(n)])
