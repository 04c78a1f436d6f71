import random
import unittest

from lanedesk.lanes import at
from tests import model
from tests.model import GREATEST_NUMBER, lane

FAR = [0, 1, 16777214, 16777215, 16777216, 2 ** 32, 2 ** 63, GREATEST_NUMBER]


def said(ticks, l):
    """What the lane says at each tick, where it tells a number alone."""
    answers = [at(tick, l) for tick in ticks]
    for answer in answers:
        if answer[1:] != [0, 0]:
            raise AssertionError(answer)
    return [answer[0] for answer in answers]


class OrdinaryAt(unittest.TestCase):
    def test_no_point(self):
        self.assertEqual(said(FAR, lane(16384)), [16384] * len(FAR))
        self.assertEqual(said(FAR, lane(0)), [0] * len(FAR))

    def test_one_point_before_at_and_behind_it(self):
        self.assertEqual(said([0, 1, 4, 5, 6, 16777215], lane(700, [(5, 9)])), [700, 700, 700, 9, 9, 9])

    def test_several_points_before_at_and_behind_each(self):
        l = lane(700, [(5, 9), (8, 65535), (300, 0)])
        self.assertEqual(said([0, 4, 5, 6, 7, 8, 9, 299, 300, 301], l),
                         [700, 700, 9, 9, 9, 65535, 65535, 65535, 0, 0])

    def test_points_at_neighbouring_ticks(self):
        self.assertEqual(said(range(5), lane(1, [(1, 2), (2, 3), (3, 2)])), [1, 2, 3, 2, 2])

    def test_64_points(self):
        l = lane(0, [(10 * number, number) for number in range(1, 65)])
        self.assertEqual(said(range(660), l), [min(tick // 10, 64) for tick in range(660)])

    def test_gains_of_two_bytes(self):
        self.assertEqual(said([0, 1], lane(0x1234, [(1, 0xABCD)])), [0x1234, 0xABCD])


class FarTicks(unittest.TestCase):
    def test_a_point_at_the_greatest_tick(self):
        self.assertEqual(said(FAR, lane(3, [(16777215, 4)])), [3, 3, 3, 4, 4, 4, 4, 4])

    def test_ticks_above_the_greatest_say_what_the_last_point_says(self):
        self.assertEqual(said(FAR, lane(3, [(1, 4), (7, 5)])), [3, 4, 5, 5, 5, 5, 5, 5])

    def test_ticks_above_the_greatest_do_not_begin_again(self):
        self.assertEqual(said([2 ** 24, 2 ** 24 + 3, 2 ** 32 + 3, 2 ** 64 - 1], lane(3, [(2, 4), (7, 5)])), [5] * 4)


class AtRefusals(unittest.TestCase):
    def test_each_fault_whatever_the_tick(self):
        for tick in FAR:
            self.assertEqual(at(tick, []), [-6, 0, 2, 1, 0], tick)
            self.assertEqual(at(tick, lane(9, [(5, 8)])[:9]), [-6, 0, 2, 1, 9], tick)
            self.assertEqual(at(tick, lane(9, [], 65)), [-6, 0, 2, 2, 2], tick)
            self.assertEqual(at(tick, lane(9, [(0, 8)])), [-6, 0, 2, 2, 4], tick)
            self.assertEqual(at(tick, lane(9, [(16777216, 8)])), [-6, 0, 2, 2, 4], tick)
            self.assertEqual(at(tick, lane(9, [(5, 8), (5, 7)])), [-6, 0, 2, 3, 10], tick)
            self.assertEqual(at(tick, lane(9, [(5, 9)])), [-6, 0, 2, 3, 8], tick)
            self.assertEqual(at(tick, lane(9, [(5, 8)]) + [0]), [-6, 0, 2, 4, 10], tick)

    def test_a_fault_behind_the_tick_is_told_too(self):
        self.assertEqual(at(1, lane(9, [(5, 8), (6, 8)])), [-6, 0, 2, 3, 14])

    def test_more_than_1024_bytes_go_before_faults(self):
        self.assertEqual(at(0, [0] * 1024), [-6, 0, 2, 4, 4])
        self.assertEqual(at(0, [0] * 1025), [-2, 0, 0])
        self.assertEqual(at(GREATEST_NUMBER, [255] * 3000), [-2, 0, 0])


class AtAsTheDocumentSays(unittest.TestCase):
    def test_many(self):
        source = random.Random(9)
        for l in model.spoilt_lanes(source, 1500):
            for tick in [0, 1, 2, 3, source.randint(0, 300), source.randint(0, 16777215), 16777216, GREATEST_NUMBER]:
                self.assertEqual(at(tick, l), model.at(tick, l), (tick, l))

    def test_around_each_point(self):
        source = random.Random(10)
        for _ in range(60):
            ticks = sorted(source.sample(range(1, source.choice([70, 1000, 16777216])), source.randint(0, 64)))
            points = [(tick, 2 * number + source.randint(0, 1)) for number, tick in enumerate(ticks)]
            l = lane(65535, points)
            for tick in ticks:
                for asked in (tick - 1, tick, tick + 1):
                    self.assertEqual(at(asked, l), model.at(asked, l), (asked, l))
