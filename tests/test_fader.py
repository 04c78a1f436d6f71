"""The fader's curve: gain and position."""

import unittest
from fractions import Fraction

from lanedesk.lanes import gain, position
from tests import model
from tests.model import GREATEST_NUMBER


def told(call, handed):
    """What a call that tells a number alone answers for each of what is handed in."""
    answers = [call(one) for one in handed]
    for answer in answers:
        if answer[1:] != [0, 0]:
            raise AssertionError(answer)
    return [answer[0] for answer in answers]


class Gain(unittest.TestCase):
    def test_within_each_line(self):
        self.assertEqual(told(gain, [64, 192, 384, 640, 895]), [32, 288, 2304, 10240, 40863])

    def test_at_the_points_of_the_curve(self):
        self.assertEqual(told(gain, [0, 128, 256, 512, 768, 1023]), [0, 64, 512, 4096, 16384, 65535])

    def test_beside_the_points_of_the_curve(self):
        self.assertEqual(told(gain, [1, 127, 129, 255, 257]), [0, 64, 68, 508, 526])
        self.assertEqual(told(gain, [511, 513, 767, 769, 1022]), [4082, 4144, 16336, 16577, 65342])

    def test_halves_go_to_the_even_one(self):
        self.assertEqual(told(gain, [1, 3, 5, 7, 9, 125, 127]), [0, 2, 2, 4, 4, 62, 64])
        # From 128 on a position is worth three and a half.
        self.assertEqual(told(gain, [129, 131, 133, 135, 253, 255]), [68, 74, 82, 88, 502, 508])

    def test_what_is_no_half_goes_to_the_nearest(self):
        self.assertEqual([model.curve(770), model.curve(771)],
                         [16384 + Fraction(98302, 255), 16384 + Fraction(147453, 255)])
        self.assertEqual(told(gain, [770, 771]), [16769, 16962])

    def test_every_position_lies_on_the_curve(self):
        for p in range(1024):
            self.assertEqual(gain(p), [round(model.curve(p)), 0, 0], p)

    def test_no_position_is_softer_than_the_one_before(self):
        gains = told(gain, range(1024))
        self.assertEqual(gains, sorted(gains))

    def test_above_1023_is_refused(self):
        for p in (1024, 1025, 65535, 2 ** 32, 2 ** 63, GREATEST_NUMBER):
            self.assertEqual(gain(p), [-1, 0, 0], p)


class Position(unittest.TestCase):
    def test_within_each_line(self):
        self.assertEqual(told(position, [31, 288, 2304, 10240, 40863]), [62, 192, 384, 640, 895])

    def test_a_gain_of_no_position_has_the_one_below(self):
        self.assertEqual(told(position, [513, 525, 526, 527]), [256, 256, 257, 257])
        self.assertEqual(told(position, [16385, 16576, 16577, 40000]), [768, 768, 769, 890])

    def test_the_greatest_of_several_positions_with_one_gain(self):
        # Positions 0 and 1 have gain 0, positions 3, 4 and 5 have gain 2, positions 127 and 128 have gain 64.
        self.assertEqual(told(position, [0, 1, 2, 3, 4]), [1, 2, 5, 6, 9])
        self.assertEqual(told(position, [62, 63, 64, 67, 68]), [125, 126, 128, 128, 129])

    def test_at_and_beside_the_points_of_the_curve(self):
        self.assertEqual(told(position, [507, 508, 511, 512, 513]), [254, 255, 255, 256, 256])
        self.assertEqual(told(position, [4095, 4096, 4097]), [511, 512, 512])
        self.assertEqual(told(position, [16383, 16384, 16385]), [767, 768, 768])
        self.assertEqual(told(position, [65341, 65342, 65534, 65535]), [1021, 1022, 1022, 1023])

    def test_gains_above_65535_count_as_65535(self):
        for g in (65535, 65536, 65537, 2 ** 32, 2 ** 63, GREATEST_NUMBER):
            self.assertEqual(position(g), [1023, 0, 0], g)

    def test_around_each_gain_of_the_curve(self):
        for level in sorted(set(model.FADER)):
            for g in (max(level - 1, 0), level, level + 1):
                self.assertEqual(position(g), model.position(g), g)
