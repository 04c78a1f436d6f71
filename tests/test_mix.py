import random
import unittest

from lanedesk.lanes import mix
from tests import model
from tests.model import GREATEST, GREATEST_NUMBER, GREATEST_SIGNED, LEAST, LEAST_SIGNED


class OrdinaryMix(unittest.TestCase):
    def test_rows_stand_one_behind_another(self):
        self.assertEqual(mix(3, [1, 2, 3, 10, 20, 30], [16384, 32768]), [3, 0, 5, 21, 42, 63, 0, 3])

    def test_one_row_is_that_row_by_its_gain(self):
        self.assertEqual(mix(3, [3, -3, 5], [8192]), [3, 0, 5, 2, -2, 2, 0, 3])

    def test_three_rows_of_one_sample(self):
        self.assertEqual(mix(1, [100, 200, -50], [16384, 8192, 32768]), [1, 0, 3, 100, 0, 1])

    def test_16_rows_of_256_samples(self):
        x = [row for row in range(16) for _ in range(256)]
        self.assertEqual(mix(256, x, [16384] * 16), [256, 0, 258] + [120] * 256 + [0, 256])


class MixCounts(unittest.TestCase):
    def test_rows_of_no_samples(self):
        for many in (1, 2, 16):
            self.assertEqual(mix(0, [], [16384] * many), [0, 0, 2, 0, 0], many)

    def test_256_samples_are_taken_and_257_refused(self):
        self.assertEqual(mix(256, [7] * 256, [16384]), [256, 0, 258] + [7] * 256 + [0, 256])
        self.assertEqual(mix(257, [7] * 257, [16384]), [-2, 0, 0])
        self.assertEqual(mix(GREATEST_NUMBER, [], [16384]), [-2, 0, 0])

    def test_16_gains_are_taken_and_17_refused(self):
        self.assertEqual(mix(2, [1] * 32, [16384] * 16), [2, 0, 4, 16, 16, 0, 2])
        self.assertEqual(mix(2, [1] * 34, [16384] * 17), [-2, 0, 0])
        self.assertEqual(mix(0, [], [16384] * 17), [-2, 0, 0])
        self.assertEqual(mix(60, [1] * 6000, [16384] * 100), [-2, 0, 0])

    def test_no_gain_is_refused(self):
        self.assertEqual(mix(0, [], []), [-1, 0, 0])
        self.assertEqual(mix(256, [], []), [-1, 0, 0])

    def test_a_sample_too_few_and_one_too_many(self):
        self.assertEqual(mix(2, [1] * 6, [16384] * 3), [2, 0, 4, 3, 3, 0, 2])
        self.assertEqual(mix(2, [1] * 5, [16384] * 3), [-5, 0, 0])
        self.assertEqual(mix(2, [1] * 7, [16384] * 3), [-5, 0, 0])
        self.assertEqual(mix(256, [1] * 4095, [16384] * 16), [-5, 0, 0])
        self.assertEqual(mix(256, [1] * 4097, [16384] * 16), [-5, 0, 0])

    def test_a_whole_row_too_few_and_one_too_many(self):
        self.assertEqual(mix(2, [1] * 4, [16384] * 3), [-5, 0, 0])
        self.assertEqual(mix(2, [1] * 8, [16384] * 3), [-5, 0, 0])

    def test_rows_of_no_samples_have_no_sample(self):
        self.assertEqual(mix(0, [1], [16384]), [-5, 0, 0])
        self.assertEqual(mix(1, [], [16384]), [-5, 0, 0])


class MixRefusalsInTheirOrder(unittest.TestCase):
    def test_too_many_goes_before_no_gain(self):
        self.assertEqual(mix(257, [], []), [-2, 0, 0])
        self.assertEqual(mix(GREATEST_NUMBER, [1], []), [-2, 0, 0])

    def test_too_many_goes_before_other_lengths(self):
        self.assertEqual(mix(257, [1], [16384]), [-2, 0, 0])
        self.assertEqual(mix(1, [1], [16384] * 17), [-2, 0, 0])
        self.assertEqual(mix(257, [1], [16384] * 17), [-2, 0, 0])

    def test_no_gain_goes_before_other_lengths(self):
        self.assertEqual(mix(0, [1], []), [-1, 0, 0])
        self.assertEqual(mix(256, [1] * 6000, []), [-1, 0, 0])


class MixRounding(unittest.TestCase):
    def test_halves_go_to_the_even_one(self):
        x = [1, 3, 5, -1, -3, -5]
        self.assertEqual(mix(6, x + [0] * 6, [8192, 16384])[3:9], [0, 2, 2, 0, -2, -2])

    def test_the_sum_is_rounded_once(self):
        # Two halves are one; each rounded by itself they would be none, or three quarters of four be four.
        self.assertEqual(mix(1, [1, 1], [8192, 8192])[3], 1)
        self.assertEqual(mix(1, [-1, -1], [8192, 8192])[3], -1)
        self.assertEqual(mix(1, [1, 1, 1, 1], [12288] * 4)[3], 3)
        self.assertEqual(mix(1, [1] * 16, [1024] * 16)[3], 1)

    def test_beside_the_halves(self):
        self.assertEqual(mix(1, [1, 1], [8192, 1])[3], 1)
        self.assertEqual(mix(1, [-1, -1], [8192, 1])[3], -1)
        self.assertEqual(mix(1, [3, -1], [8192, 1])[3], 1)
        self.assertEqual(mix(1, [-3, 1], [8192, 1])[3], -1)


class MixClips(unittest.TestCase):
    def test_only_the_sum_is_held_not_what_it_is_made_of(self):
        self.assertEqual(mix(1, [GREATEST, GREATEST, -GREATEST], [16384] * 3), [1, 0, 3, GREATEST, 0, 1])
        self.assertEqual(mix(1, [LEAST, LEAST], [65535, 65535]), [1, 0, 3, LEAST, 1, 0])
        self.assertEqual(mix(1, [GREATEST, -GREATEST], [65535, 65534]), [1, 0, 3, 512, 0, 1])

    def test_clips_and_the_place_of_the_first(self):
        x = [0, GREATEST, LEAST, GREATEST, LEAST] + [0, 0, 0, 1, -1]
        self.assertEqual(mix(5, x, [16384, 16384]), [5, 0, 7, 0, GREATEST, LEAST, GREATEST, LEAST, 2, 3])

    def test_none_clipped_tells_how_many_a_row_has(self):
        self.assertEqual(mix(2, [1] * 8, [16384] * 4), [2, 0, 4, 4, 4, 0, 2])

    def test_halves_at_the_bounds(self):
        self.assertEqual(mix(1, [GREATEST, 1], [16384, 8192]), [1, 0, 3, GREATEST, 1, 0])
        self.assertEqual(mix(1, [GREATEST, 1], [16384, 8191]), [1, 0, 3, GREATEST, 0, 1])
        self.assertEqual(mix(1, [LEAST, -1], [16384, 8192]), [1, 0, 3, LEAST, 0, 1])
        self.assertEqual(mix(1, [LEAST, -1], [16384, 8193]), [1, 0, 3, LEAST, 1, 0])

    def test_what_is_handed_beyond_the_bounds_is_held_first_and_not_counted(self):
        x = [LEAST_SIGNED, GREATEST_SIGNED, LEAST - 1, GREATEST + 1]
        self.assertEqual(mix(4, x, [16384]), [4, 0, 6, LEAST, GREATEST, LEAST, GREATEST, 0, 4])
        self.assertEqual(mix(1, [LEAST_SIGNED, GREATEST_SIGNED], [16384, 16384]), [1, 0, 3, -1, 0, 1])
        self.assertEqual(mix(1, [GREATEST + 1, -1], [16384, 16384]), [1, 0, 3, GREATEST - 1, 0, 1])

    def test_the_loudest_of_all(self):
        self.assertEqual(mix(256, [GREATEST_SIGNED] * 4096, [GREATEST_NUMBER] * 16),
                         [256, 0, 258] + [GREATEST] * 256 + [256, 0])
        self.assertEqual(mix(256, [LEAST_SIGNED] * 4096, [GREATEST_NUMBER] * 16),
                         [256, 0, 258] + [LEAST] * 256 + [256, 0])


class MixGains(unittest.TestCase):
    def test_a_row_by_0_is_silent(self):
        self.assertEqual(mix(2, [GREATEST, LEAST, 5, 6], [0, 16384]), [2, 0, 4, 5, 6, 0, 2])
        self.assertEqual(mix(1, [GREATEST], [0]), [1, 0, 3, 0, 0, 1])

    def test_gains_above_65535_count_as_65535(self):
        for above in (65535, 65536, 81920, 2 ** 32, GREATEST_NUMBER):
            self.assertEqual(mix(1, [16384, 1], [above, 16384]), [1, 0, 3, 65536, 0, 1], above)
            self.assertEqual(mix(1, [1, 16384], [16384, above]), [1, 0, 3, 65536, 0, 1], above)


class MixAsTheDocumentSays(unittest.TestCase):
    def test_edges_with_all_gains(self):
        n = len(model.SAMPLES)
        x = model.SAMPLES + model.SAMPLES[::-1]
        for u in model.GAINS:
            for v in model.GAINS:
                self.assertEqual(mix(n, list(x), [u, v]), model.mix(n, x, [u, v]), (u, v))

    def test_many(self):
        source = random.Random(3)
        for _ in range(400):
            reach = source.choice([3, 100, 3000000, 9000000, GREATEST_SIGNED])
            n = source.randint(0, 12)
            g = [source.choice([source.randint(0, 65535), 1024 * source.randint(0, 64), source.choice(model.GAINS)])
                 for _ in range(source.randint(0, 17))]
            many = n * len(g) + source.choice([0] * 8 + [1, n])
            x = [source.randint(-reach, reach) for _ in range(many)]
            self.assertEqual(mix(n, x, g), model.mix(n, x, g), (n, x, g))
