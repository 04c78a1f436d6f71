"""Samples, gains and the fader's curve: the reckoning that the desk's calls share."""

LEAST_SAMPLE = -8388608
GREATEST_SAMPLE = 8388607
GREATEST_GAIN = 65535
GAIN_AS_IT_CAME = 16384
GLIDE_STEPS = 64

# The points of the fader's curve: each position stands at the same place as its gain.
CURVE_POSITIONS = (0, 128, 256, 512, 768, 1023)
CURVE_GAINS = (0, 64, 512, 4096, 16384, 65535)
GREATEST_POSITION = 1023


def rounded(dividend, divisor):
    """The whole number nearest to dividend / divisor (divisor above 0); of two as near the even one."""
    below = dividend // divisor
    # Floor division leaves a rest from 0 up for negative dividends too, so one comparison serves both signs.
    twice_rest = 2 * (dividend % divisor)
    if twice_rest > divisor:
        return below + 1
    if twice_rest == divisor:
        return below + below % 2
    return below


def held(sample):
    """The sample, or the bound that it lies beyond."""
    return max(LEAST_SAMPLE, min(GREATEST_SAMPLE, sample))


def held_gain(handed):
    """The gain that a handed number counts as."""
    return min(GREATEST_GAIN, handed)


def line_value(u, v, step, steps):
    """The value, rounded, of a straight line that goes from u to v in so many steps, at one of them."""
    return rounded(u * (steps - step) + v * step, steps)


def between(u, v, step):
    """The gain that lies so many steps of 64 on from gain u to gain v."""
    return line_value(u, v, step, GLIDE_STEPS)


def curve_gain(p):
    """The gain of a position from 0 to 1,023 on the fader's curve."""
    end = 1
    while CURVE_POSITIONS[end] < p:
        end = end + 1
    begin = end - 1
    steps = CURVE_POSITIONS[end] - CURVE_POSITIONS[begin]
    return line_value(CURVE_GAINS[begin], CURVE_GAINS[end], p - CURVE_POSITIONS[begin], steps)
