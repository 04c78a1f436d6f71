import random
import unittest

from lanedesk.lanes import at, row
from tests import model
from tests.model import FAULTS, GREATEST_NUMBER, lane

SEVERAL = lane(700, [(5, 9), (8, 65535), (300, 0)])


class OrdinaryRows(unittest.TestCase):
    def test_no_point(self):
        self.assertEqual(row(0, 3, lane(16384)), [3, 0, 3, 16384, 16384, 16384])
        self.assertEqual(row(99, 2, lane(0)), [2, 0, 2, 0, 0])

    def test_one_point_before_at_and_behind_it(self):
        l = lane(700, [(5, 9)])
        self.assertEqual(row(3, 4, l), [4, 0, 4, 700, 700, 9, 9])
        self.assertEqual(row(2, 3, l), [3, 0, 3, 700, 700, 700])
        self.assertEqual(row(2, 4, l), [4, 0, 4, 700, 700, 700, 9])
        self.assertEqual(row(4, 1, l), [1, 0, 1, 700])
        self.assertEqual(row(5, 1, l), [1, 0, 1, 9])
        self.assertEqual(row(5, 3, l), [3, 0, 3, 9, 9, 9])
        self.assertEqual(row(6, 2, l), [2, 0, 2, 9, 9])

    def test_several_points(self):
        self.assertEqual(row(3, 7, SEVERAL), [7, 0, 7, 700, 700, 9, 9, 9, 65535, 65535])
        self.assertEqual(row(298, 4, SEVERAL), [4, 0, 4, 65535, 65535, 0, 0])

    def test_64_points(self):
        l = lane(0, [(3 * number, number) for number in range(1, 65)])
        self.assertEqual(row(0, 256, l), [256, 0, 256] + [min(tick // 3, 64) for tick in range(256)])

    def test_no_tick(self):
        for tick in (0, 5, 16777216, GREATEST_NUMBER):
            self.assertEqual(row(tick, 0, SEVERAL), [0, 0, 0], tick)

    def test_256_ticks(self):
        self.assertEqual(row(100, 256, SEVERAL), [256, 0, 256] + [65535] * 200 + [0] * 56)


class FarRows(unittest.TestCase):
    def test_up_to_the_greatest_tick(self):
        self.assertEqual(row(16777213, 3, lane(3, [(16777215, 4)])), [3, 0, 3, 3, 3, 4])

    def test_beyond_the_greatest_tick_the_last_point_goes_on(self):
        self.assertEqual(row(16777213, 6, lane(3, [(16777215, 4)])), [6, 0, 6, 3, 3, 4, 4, 4, 4])
        self.assertEqual(row(16777200, 256, lane(3, [(2, 4), (16777210, 5)])), [256, 0, 256] + [4] * 10 + [5] * 246)
        self.assertEqual(row(16777216, 2, lane(3, [(2, 4), (7, 5)])), [2, 0, 2, 5, 5])
        self.assertEqual(row(16777215, 2, lane(3)), [2, 0, 2, 3, 3])

    def test_the_greatest_number_as_a_tick(self):
        self.assertEqual(row(GREATEST_NUMBER, 3, lane(3, [(2, 4), (7, 5)])), [3, 0, 3, 5, 5, 5])
        self.assertEqual(row(GREATEST_NUMBER, 256, lane(3)), [256, 0, 256] + [3] * 256)
        self.assertEqual(row(2 ** 32, 4, lane(3, [(2, 4)])), [4, 0, 4, 4, 4, 4, 4])


class RowRefusals(unittest.TestCase):
    def test_more_than_256_ticks(self):
        for n in (257, 258, 512, 2 ** 32, 2 ** 63, GREATEST_NUMBER):
            self.assertEqual(row(0, n, SEVERAL), [-2, 0, 0], n)
            self.assertEqual(row(GREATEST_NUMBER, n, SEVERAL), [-2, 0, 0], n)

    def test_more_than_1024_bytes(self):
        self.assertEqual(row(0, 3, [0] * 1025), [-2, 0, 0])
        self.assertEqual(row(0, 0, [255] * 3000), [-2, 0, 0])
        self.assertEqual(row(0, 257, [0] * 1025), [-2, 0, 0])
        self.assertEqual(row(0, 3, [0] * 1024), [-6, 0, 2, 4, 4])

    def test_each_fault(self):
        for l, kind, place in FAULTS:
            for n in (0, 1, 256):
                self.assertEqual(row(0, n, l), [-6, 0, 2, kind, place])

    def test_too_many_ticks_go_before_faults(self):
        self.assertEqual(row(0, 257, []), [-2, 0, 0])
        self.assertEqual(row(0, 256, []), [-6, 0, 2, 1, 0])
        self.assertEqual(row(7, GREATEST_NUMBER, lane(9, [(5, 9)])), [-2, 0, 0])


class RowAsTheDocumentSays(unittest.TestCase):
    def test_many(self):
        source = random.Random(12)
        for l in model.spoilt_lanes(source, 1500):
            tick = source.choice([0, 1, source.randint(0, 300), source.randint(0, 16777215), 16777200, GREATEST_NUMBER])
            n = source.choice([0, 1, 2, 9, 40, 256, 257])
            self.assertEqual(row(tick, n, l), model.row(tick, n, l), (tick, n, l))

    def test_each_gain_is_what_at_answers(self):
        source = random.Random(13)
        for base in (0, 500, 16777180):
            for _ in range(40):
                l = model.a_lane(source, base)
                tick = source.randint(base, base + 50)
                self.assertEqual(row(tick, 60, l)[3:], [at(tick + i, l)[0] for i in range(60)])
