import random
import unittest

from lanedesk.lanes import glide
from tests import model
from tests.model import GREATEST, GREATEST_NUMBER, GREATEST_SIGNED, LEAST, LEAST_SIGNED


def gains_heard(start, u, v, many):
    """What glide makes of samples that show the gain as it is."""
    return glide(start, u, v, [16384] * many)[3:3 + many]


class OrdinaryGlide(unittest.TestCase):
    def test_from_silence_to_as_it_came(self):
        self.assertEqual(glide(0, 0, 16384, [640, 640, 640]), [3, 0, 5, 0, 10, 20, 0, 3])

    def test_from_as_it_came_to_silence(self):
        self.assertEqual(glide(62, 16384, 0, [640, -640, 640]), [3, 0, 5, 20, -10, 0, 0, 3])

    def test_a_glide_that_begins_half_way(self):
        self.assertEqual(glide(32, 16384, 32768, [100]), [1, 0, 3, 150, 0, 1])

    def test_each_step_of_a_whole_glide(self):
        self.assertEqual(gains_heard(0, 0, 64, 65), list(range(65)))
        self.assertEqual(gains_heard(0, 6400, 0, 65), list(range(6400, -100, -100)))

    def test_a_glide_between_equal_gains_stays(self):
        self.assertEqual(gains_heard(0, 12345, 12345, 65), [12345] * 65)


class GlideRounding(unittest.TestCase):
    def test_gains_between_are_rounded_halves_to_the_even_one(self):
        # From 0 to 2: 16 steps on a half, 48 steps on one and a half.
        self.assertEqual(gains_heard(15, 0, 2, 3), [0, 0, 1])
        self.assertEqual(gains_heard(47, 0, 2, 3), [1, 2, 2])
        self.assertEqual(gains_heard(15, 2, 0, 3), [2, 2, 1])
        self.assertEqual(gains_heard(47, 2, 0, 3), [1, 0, 0])

    def test_the_gain_is_rounded_before_the_sample_is_multiplied(self):
        # Half way from 0 to 1 the gain is 0, not a half, so the loudest sample is silent.
        self.assertEqual(glide(32, 0, 1, [GREATEST, LEAST]), [2, 0, 4, 0, -512, 0, 2])

    def test_samples_are_rounded_halves_to_the_even_one(self):
        self.assertEqual(glide(0, 8192, 8192, [1, 3, 5, -1, -3, -5])[3:9], [0, 2, 2, 0, -2, -2])


class GlideBounds(unittest.TestCase):
    def test_no_samples(self):
        for start in (0, 1, 63, 64):
            self.assertEqual(glide(start, 1, 2, []), [0, 0, 2, 0, 0], start)

    def test_start_0_takes_65_samples(self):
        self.assertEqual(glide(0, 16384, 16384, [5] * 65), [65, 0, 67] + [5] * 65 + [0, 65])
        self.assertEqual(glide(0, 16384, 16384, [5] * 66), [-1, 0, 0])

    def test_start_64_takes_one_sample_wholly_by_the_last_gain(self):
        self.assertEqual(glide(64, 0, 16384, [9]), [1, 0, 3, 9, 0, 1])
        self.assertEqual(glide(64, 0, 16384, [9, 9]), [-1, 0, 0])

    def test_start_65_is_refused_with_no_samples_too(self):
        self.assertEqual(glide(65, 0, 16384, []), [-1, 0, 0])
        self.assertEqual(glide(65, 0, 16384, [9]), [-1, 0, 0])

    def test_start_and_how_many_together(self):
        for start in range(65):
            self.assertEqual(glide(start, 0, 0, [1] * (65 - start))[0], 65 - start)
            self.assertEqual(glide(start, 0, 0, [1] * (66 - start)), [-1, 0, 0])

    def test_the_greatest_start(self):
        self.assertEqual(glide(GREATEST_NUMBER, 0, 0, []), [-1, 0, 0])
        self.assertEqual(glide(GREATEST_NUMBER, 0, 0, [1]), [-1, 0, 0])

    def test_256_samples_are_too_far_and_257_too_many(self):
        self.assertEqual(glide(0, 0, 0, [1] * 256), [-1, 0, 0])
        self.assertEqual(glide(0, 0, 0, [1] * 257), [-2, 0, 0])
        self.assertEqual(glide(0, 0, 0, [1] * 6000), [-2, 0, 0])

    def test_too_many_goes_before_out_of_bounds(self):
        for start in (0, 64, 65, GREATEST_NUMBER):
            self.assertEqual(glide(start, 0, 0, [1] * 256), [-1, 0, 0], start)
            self.assertEqual(glide(start, 0, 0, [1] * 257), [-2, 0, 0], start)


class GlideClips(unittest.TestCase):
    def test_clips_and_the_place_of_the_first(self):
        # The place is that in x, not the step.
        x = [1, GREATEST, 1, LEAST, 0]
        self.assertEqual(glide(10, 32768, 32768, x), [5, 0, 7, 2, GREATEST, 2, LEAST, 0, 2, 1])

    def test_the_place_where_a_rising_glide_begins_to_clip(self):
        # Up to 16384, 32 steps on, the sample is not beyond its bound.
        self.assertEqual(glide(0, 0, 32768, [GREATEST] * 65)[68:], [32, 33])
        self.assertEqual(glide(0, 0, 32768, [LEAST] * 65)[68:], [32, 33])

    def test_halves_at_the_bounds(self):
        self.assertEqual(glide(0, 24576, 0, [5592405]), [1, 0, 3, GREATEST, 1, 0])
        self.assertEqual(glide(64, 0, 24576, [-5592405]), [1, 0, 3, LEAST, 0, 1])
        self.assertEqual(glide(64, 0, 49664, [-2767376]), [1, 0, 3, LEAST, 0, 1])

    def test_what_is_handed_beyond_the_bounds_is_held_first_and_not_counted(self):
        x = [LEAST - 1, GREATEST + 1, LEAST_SIGNED, GREATEST_SIGNED]
        self.assertEqual(glide(0, 16384, 16384, x), [4, 0, 6, LEAST, GREATEST, LEAST, GREATEST, 0, 4])
        self.assertEqual(glide(0, 8192, 8192, x), [4, 0, 6, -4194304, 4194304, -4194304, 4194304, 0, 4])


class GlideGains(unittest.TestCase):
    def test_gains_above_65535_count_as_65535_before_what_is_between(self):
        for above in (65536, 65599, 2 ** 32, GREATEST_NUMBER):
            self.assertEqual(gains_heard(0, above, 0, 65), gains_heard(0, 65535, 0, 65), above)
            self.assertEqual(gains_heard(0, 0, above, 65), gains_heard(0, 0, 65535, 65), above)
            self.assertEqual(gains_heard(0, above, above, 65), [65535] * 65, above)
        self.assertEqual(gains_heard(32, GREATEST_NUMBER, 0, 1), [32768])


class GlideAsTheDocumentSays(unittest.TestCase):
    def test_edges_with_all_gains(self):
        for u in model.GAINS:
            for v in model.GAINS:
                for start in (0, 1, 27, 28):
                    self.assertEqual(glide(start, u, v, list(model.SAMPLES)),
                                     model.glide(start, u, v, model.SAMPLES), (start, u, v))

    def test_many(self):
        source = random.Random(2)
        for _ in range(400):
            reach = source.choice([3, 100, 3000000, 9000000, GREATEST_SIGNED])
            start = source.randint(0, 66)
            x = [source.randint(-reach, reach) for _ in range(source.randint(0, max(66 - start, 0)))]
            u, v = [source.choice([source.randint(0, 65535), source.randint(0, 4), source.choice(model.GAINS)])
                    for _ in range(2)]
            self.assertEqual(glide(start, u, v, x), model.glide(start, u, v, x), (start, u, v, x))
