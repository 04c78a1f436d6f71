import random
import unittest

from lanedesk.lanes import peak
from tests import model
from tests.model import GREATEST, GREATEST_SIGNED, LEAST, LEAST_SIGNED


class OrdinaryPeak(unittest.TestCase):
    def test_the_greatest_distance_how_many_and_the_first(self):
        self.assertEqual(peak([3, 9, -2, 9, 4]), [5, 0, 3, 9, 2, 1])

    def test_a_sample_below_0(self):
        self.assertEqual(peak([3, -9, 2]), [3, 0, 3, 9, 1, 1])

    def test_one_sample(self):
        self.assertEqual(peak([7]), [1, 0, 3, 7, 1, 0])
        self.assertEqual(peak([-7]), [1, 0, 3, 7, 1, 0])

    def test_the_last_sample_alone(self):
        self.assertEqual(peak([1, -2, 3]), [3, 0, 3, 3, 1, 2])

    def test_as_far_from_0_on_either_side(self):
        self.assertEqual(peak([1, -5, 5, 0]), [4, 0, 3, 5, 2, 1])
        self.assertEqual(peak([1, 5, -5, 0]), [4, 0, 3, 5, 2, 1])
        self.assertEqual(peak([5, -5, 5, -5]), [4, 0, 3, 5, 4, 0])


class PeakCounts(unittest.TestCase):
    def test_no_samples(self):
        self.assertEqual(peak([]), [0, 0, 3, 0, 0, 0])

    def test_samples_of_0_are_as_far_as_any(self):
        self.assertEqual(peak([0]), [1, 0, 3, 0, 1, 0])
        self.assertEqual(peak([0, 0, 0]), [3, 0, 3, 0, 3, 0])

    def test_256_samples_are_taken(self):
        self.assertEqual(peak([1] * 256), [256, 0, 3, 1, 256, 0])
        self.assertEqual(peak([0] * 255 + [-1]), [256, 0, 3, 1, 1, 255])

    def test_257_samples_are_refused(self):
        self.assertEqual(peak([1] * 257), [-2, 0, 0])
        self.assertEqual(peak([0] * 257), [-2, 0, 0])

    def test_6000_samples_are_refused(self):
        self.assertEqual(peak([GREATEST_SIGNED] * 6000), [-2, 0, 0])


class PeakBounds(unittest.TestCase):
    def test_samples_at_the_bounds(self):
        self.assertEqual(peak([LEAST]), [1, 0, 3, 8388608, 1, 0])
        self.assertEqual(peak([GREATEST]), [1, 0, 3, 8388607, 1, 0])

    def test_samples_beside_the_bounds(self):
        self.assertEqual(peak([LEAST + 1]), [1, 0, 3, 8388607, 1, 0])
        self.assertEqual(peak([GREATEST - 1]), [1, 0, 3, 8388606, 1, 0])

    def test_samples_beyond_the_bounds_are_held_first(self):
        for beyond in (LEAST - 1, -(2 ** 32), LEAST_SIGNED):
            self.assertEqual(peak([beyond]), [1, 0, 3, 8388608, 1, 0], beyond)
        for beyond in (GREATEST + 1, 2 ** 32, GREATEST_SIGNED):
            self.assertEqual(peak([beyond]), [1, 0, 3, 8388607, 1, 0], beyond)

    def test_held_samples_are_counted_with_those_at_the_bound(self):
        self.assertEqual(peak([0, GREATEST_SIGNED, GREATEST, LEAST + 1, GREATEST + 1]), [5, 0, 3, 8388607, 4, 1])
        self.assertEqual(peak([0, LEAST, LEAST_SIGNED, LEAST - 1, LEAST + 1]), [5, 0, 3, 8388608, 3, 1])

    def test_the_least_is_farther_than_the_greatest(self):
        self.assertEqual(peak([GREATEST, LEAST]), [2, 0, 3, 8388608, 1, 1])
        self.assertEqual(peak([GREATEST_SIGNED, LEAST]), [2, 0, 3, 8388608, 1, 1])
        self.assertEqual(peak([GREATEST_SIGNED, LEAST + 1]), [2, 0, 3, 8388607, 2, 0])


class PeakAsTheDocumentSays(unittest.TestCase):
    def test_edges(self):
        for one in model.SAMPLES:
            for other in model.SAMPLES:
                self.assertEqual(peak([0, one, other, one]), model.peak([0, one, other, one]), (one, other))

    def test_many(self):
        source = random.Random(6)
        for _ in range(400):
            reach = source.choice([1, 3, 100, 9000000, GREATEST_SIGNED])
            x = [source.randint(-reach, reach) for _ in range(source.choice([0, 1, 2, 5, 30, 256, 257]))]
            self.assertEqual(peak(x), model.peak(x), x)
