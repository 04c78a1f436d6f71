import unittest

from lanedesk.lanes import pan
from tests import model
from tests.model import GREATEST_SIGNED, LEAST_SIGNED


class Pan(unittest.TestCase):
    def test_the_middle(self):
        self.assertEqual(pan(0), [0, 0, 2, 8192, 8192])

    def test_to_either_side(self):
        self.assertEqual(pan(-32), [0, 0, 2, 12288, 4096])
        self.assertEqual(pan(32), [0, 0, 2, 4096, 12288])
        self.assertEqual(pan(-1), [0, 0, 2, 8320, 8064])
        self.assertEqual(pan(1), [0, 0, 2, 8064, 8320])

    def test_at_the_bounds(self):
        self.assertEqual(pan(-64), [0, 0, 2, 16384, 0])
        self.assertEqual(pan(64), [0, 0, 2, 0, 16384])
        self.assertEqual(pan(-63), [0, 0, 2, 16256, 128])
        self.assertEqual(pan(63), [0, 0, 2, 128, 16256])

    def test_beyond_the_bounds_is_refused(self):
        for p in (-65, 65, -66, 66, -128, 128, -(2 ** 32), 2 ** 32, LEAST_SIGNED, GREATEST_SIGNED):
            self.assertEqual(pan(p), [-1, 0, 0], p)

    def test_every_pan(self):
        for p in range(-70, 71):
            self.assertEqual(pan(p), model.pan(p), p)
