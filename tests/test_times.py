import random
import unittest

from lanedesk.lanes import times
from tests import model
from tests.model import GREATEST, GREATEST_NUMBER, GREATEST_SIGNED, LEAST, LEAST_SIGNED


class OrdinaryTimes(unittest.TestCase):
    def test_the_interface_example(self):
        self.assertEqual(times(8192, [3, -3, 5]), [3, 0, 5, 2, -2, 2, 0, 3])

    def test_louder_and_softer(self):
        self.assertEqual(times(32768, [1, -1, 1000]), [3, 0, 5, 2, -2, 2000, 0, 3])
        self.assertEqual(times(4096, [400, -800]), [2, 0, 4, 100, -200, 0, 2])

    def test_one_sample(self):
        self.assertEqual(times(16384, [7]), [1, 0, 3, 7, 0, 1])


class TimesCounts(unittest.TestCase):
    def test_no_samples(self):
        self.assertEqual(times(16384, []), [0, 0, 2, 0, 0])
        self.assertEqual(times(GREATEST_NUMBER, []), [0, 0, 2, 0, 0])

    def test_256_samples_are_taken(self):
        x = list(range(-128, 128))
        self.assertEqual(times(16384, x), [256, 0, 258] + x + [0, 256])

    def test_257_samples_are_refused(self):
        self.assertEqual(times(16384, [1] * 257), [-2, 0, 0])

    def test_6000_samples_are_refused(self):
        self.assertEqual(times(GREATEST_NUMBER, [GREATEST_SIGNED] * 6000), [-2, 0, 0])


class TimesRounding(unittest.TestCase):
    def test_halves_go_to_the_even_one(self):
        self.assertEqual(times(8192, [1, 3, 5, 7, -1, -3, -5, -7])[3:11], [0, 2, 2, 4, 0, -2, -2, -4])

    def test_beside_the_halves(self):
        # 8191 and 8193 of 16384 are just below and just above a half.
        self.assertEqual(times(8191, [1, -1])[3:5], [0, 0])
        self.assertEqual(times(8193, [1, -1])[3:5], [1, -1])
        self.assertEqual(times(24575, [1, -1])[3:5], [1, -1])
        self.assertEqual(times(24577, [1, -1])[3:5], [2, -2])

    def test_quarters_go_to_the_nearest(self):
        self.assertEqual(times(4096, [1, 2, 3, 5, 6, 7, -1, -2, -3, -5, -6, -7])[3:15],
                         [0, 0, 1, 1, 2, 2, 0, 0, -1, -1, -2, -2])


class TimesClips(unittest.TestCase):
    def test_samples_at_and_inside_the_bounds_pass_whole(self):
        x = [LEAST, LEAST + 1, GREATEST - 1, GREATEST]
        self.assertEqual(times(16384, x), [4, 0, 6] + x + [0, 4])

    def test_what_is_handed_beyond_the_bounds_is_held_and_not_counted(self):
        x = [LEAST - 1, GREATEST + 1, LEAST_SIGNED, GREATEST_SIGNED]
        self.assertEqual(times(16384, x), [4, 0, 6, LEAST, GREATEST, LEAST, GREATEST, 0, 4])

    def test_what_is_handed_beyond_the_bounds_is_held_before_it_is_multiplied(self):
        x = [LEAST - 1, GREATEST + 1, LEAST_SIGNED, GREATEST_SIGNED]
        self.assertEqual(times(8192, x), [4, 0, 6, -4194304, 4194304, -4194304, 4194304, 0, 4])
        self.assertEqual(times(0, x), [4, 0, 6, 0, 0, 0, 0, 0, 4])

    def test_clips_and_the_place_of_the_first(self):
        x = [1, 4194304, 5, -4194305, -4194304, 4194303]
        self.assertEqual(times(32768, x), [6, 0, 8, 2, GREATEST, 10, LEAST, LEAST, 8388606, 2, 1])

    def test_the_first_and_the_last_may_clip(self):
        self.assertEqual(times(32768, [GREATEST, 0])[5:], [1, 0])
        self.assertEqual(times(32768, [0, LEAST])[5:], [1, 1])

    def test_all_may_clip(self):
        self.assertEqual(times(65535, [LEAST] * 256), [256, 0, 258] + [LEAST] * 256 + [256, 0])

    def test_a_half_at_the_upper_bound_rounds_up_and_clips(self):
        # 5592405 * 24576 / 16384 is 8388607 and a half.
        self.assertEqual(times(24576, [5592405]), [1, 0, 3, GREATEST, 1, 0])

    def test_a_half_at_the_lower_bound_rounds_onto_it_and_does_not_clip(self):
        # -5592405 * 24576 / 16384 is -8388607 and a half, -2767376 * 49664 / 16384 is -8388608 and a half.
        self.assertEqual(times(24576, [-5592405]), [1, 0, 3, LEAST, 0, 1])
        self.assertEqual(times(49664, [-2767376]), [1, 0, 3, LEAST, 0, 1])

    def test_a_gain_just_above_16384_clips_the_greatest(self):
        self.assertEqual(times(16385, [GREATEST, LEAST]), [2, 0, 4, GREATEST, LEAST, 2, 0])
        self.assertEqual(times(16383, [GREATEST, LEAST])[5:], [0, 2])


class TimesGains(unittest.TestCase):
    def test_gain_0(self):
        self.assertEqual(times(0, [LEAST, -1, 0, 1, GREATEST]), [5, 0, 7, 0, 0, 0, 0, 0, 0, 5])

    def test_gain_65535(self):
        self.assertEqual(times(65535, [1, -1, 16384, -16384]), [4, 0, 6, 4, -4, 65535, -65535, 0, 4])

    def test_gains_above_65535_count_as_65535(self):
        for g in (65536, 65537, 81920, 2 ** 32, 2 ** 63, GREATEST_NUMBER):
            self.assertEqual(times(g, [16384, -16384]), [2, 0, 4, 65535, -65535, 0, 2], g)


class TimesAsTheDocumentSays(unittest.TestCase):
    def test_edges_with_all_gains(self):
        for g in model.GAINS:
            self.assertEqual(times(g, list(model.SAMPLES)), model.times(g, model.SAMPLES), g)

    def test_many(self):
        source = random.Random(1)
        for _ in range(400):
            reach = source.choice([3, 100, 3000000, 9000000, GREATEST_SIGNED])
            x = [source.randint(-reach, reach) for _ in range(source.randint(0, 30))]
            g = source.choice([source.randint(0, 65535), 4096 * source.randint(0, 16), source.choice(model.GAINS)])
            self.assertEqual(times(g, x), model.times(g, x), (g, x))
