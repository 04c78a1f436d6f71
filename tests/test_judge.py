import random
import unittest

from lanedesk.lanes import judge
from tests import model
from tests.model import lane

SIXTY_FOUR = [(10 * number, number) for number in range(1, 65)]
THREE = lane(700, [(5, 1000), (300, 2), (70000, 65535)])


def faulty(kind, place):
    return [-6, 0, 2, kind, place]


class RightLanes(unittest.TestCase):
    def test_no_point(self):
        self.assertEqual(judge([0, 64, 0, 0]), [0, 0, 3, 16384, 0, 0])

    def test_one_point(self):
        self.assertEqual(judge([0, 64, 1, 0, 9, 0, 0, 0, 1, 0]), [0, 0, 3, 16384, 1, 9])

    def test_several_points(self):
        self.assertEqual(judge(THREE), [0, 0, 3, 700, 3, 70000])

    def test_64_points(self):
        self.assertEqual(judge(lane(0, SIXTY_FOUR)), [0, 0, 3, 0, 64, 640])

    def test_the_lowest_byte_goes_first(self):
        self.assertEqual(judge([1, 2, 1, 0, 3, 4, 5, 0, 7, 8]), [0, 0, 3, 513, 1, 3 + 4 * 256 + 5 * 65536])

    def test_the_least_and_the_greatest_gains(self):
        self.assertEqual(judge(lane(0, [(1, 65535), (2, 0)])), [0, 0, 3, 0, 2, 2])
        self.assertEqual(judge(lane(65535, [(1, 0), (2, 65535)])), [0, 0, 3, 65535, 2, 2])

    def test_a_gain_may_come_again_behind_another(self):
        self.assertEqual(judge(lane(5, [(1, 6), (2, 5), (3, 6)])), [0, 0, 3, 5, 3, 3])

    def test_a_gain_that_differs_in_one_byte_is_another(self):
        self.assertEqual(judge(lane(0x0101, [(1, 0x0201), (2, 0x0202)])), [0, 0, 3, 0x0101, 2, 2])


class BytesEnd(unittest.TestCase):
    def test_no_bytes_at_all(self):
        self.assertEqual(judge([]), faulty(1, 0))

    def test_at_each_place(self):
        for place in range(len(THREE)):
            self.assertEqual(judge(THREE[:place]), faulty(1, place), place)

    def test_at_each_place_of_64_points(self):
        whole = lane(0, SIXTY_FOUR)
        for place in range(len(whole)):
            self.assertEqual(judge(whole[:place]), faulty(1, place), place)

    def test_fewer_points_than_told(self):
        self.assertEqual(judge(lane(0, SIXTY_FOUR[:63], 64)), faulty(1, 382))


class NumbersOutOfBounds(unittest.TestCase):
    def test_more_than_64_points(self):
        for many in (65, 66, 255, 256, 320, 65535):
            self.assertEqual(judge(lane(0, SIXTY_FOUR, many)), faulty(2, 2), many)
        self.assertEqual(judge(lane(0, SIXTY_FOUR + [(650, 65)])), faulty(2, 2))

    def test_more_than_64_points_goes_before_what_is_behind(self):
        self.assertEqual(judge([0, 0, 65, 0]), faulty(2, 2))
        self.assertEqual(judge([0, 0, 65, 0, 0]), faulty(2, 2))
        self.assertEqual(judge([0, 0, 0, 1]), faulty(2, 2))
        self.assertEqual(judge(lane(0, [(0, 0)], 65)), faulty(2, 2))

    def test_how_many_is_looked_at_once_its_bytes_are_there(self):
        self.assertEqual(judge([0, 0, 65]), faulty(1, 3))

    def test_a_tick_of_0(self):
        self.assertEqual(judge(lane(0, [(0, 9)])), faulty(2, 4))
        self.assertEqual(judge(lane(0, [(1, 9), (0, 8)])), faulty(2, 10))

    def test_a_tick_of_1(self):
        self.assertEqual(judge(lane(0, [(1, 9)])), [0, 0, 3, 0, 1, 1])

    def test_the_greatest_tick(self):
        self.assertEqual(judge(lane(0, [(16777215, 9)])), [0, 0, 3, 0, 1, 16777215])
        self.assertEqual(judge(lane(0, [(16777214, 9), (16777215, 8)])), [0, 0, 3, 0, 2, 16777215])

    def test_a_tick_above_the_greatest(self):
        for tick in (16777216, 16777217, 2 ** 31, 2 ** 32 - 1):
            self.assertEqual(judge(lane(0, [(tick, 9)])), faulty(2, 4), tick)
            self.assertEqual(judge(lane(0, [(5, 9), (16777215, 8), (tick, 7)])), faulty(2, 16), tick)

    def test_a_tick_is_looked_at_once_its_bytes_are_there(self):
        for tick in (0, 16777216):
            whole = lane(0, [(3, 9), (tick, 8)])
            self.assertEqual(judge(whole[:13]), faulty(1, 13), tick)
            for end in (14, 15, 16):
                self.assertEqual(judge(whole[:end]), faulty(2, 10), (tick, end))


class NotAnother(unittest.TestCase):
    def test_a_tick_that_is_the_one_before(self):
        self.assertEqual(judge(lane(0, [(5, 9), (5, 8)])), faulty(3, 10))
        self.assertEqual(judge(lane(0, [(5, 9), (6, 8), (6, 7)])), faulty(3, 16))
        self.assertEqual(judge(lane(0, [(16777215, 9), (16777215, 8)])), faulty(3, 10))

    def test_a_tick_that_is_less_than_the_one_before(self):
        self.assertEqual(judge(lane(0, [(5, 9), (4, 8)])), faulty(3, 10))
        self.assertEqual(judge(lane(0, [(65536, 9), (65535, 8)])), faulty(3, 10))
        self.assertEqual(judge(lane(0, [(5, 9), (7, 8), (6, 7)])), faulty(3, 16))

    def test_a_tick_that_is_one_more_is_right(self):
        self.assertEqual(judge(lane(0, [(5, 9), (6, 8)])), [0, 0, 3, 0, 2, 6])

    def test_a_gain_that_is_the_first_gain(self):
        for level in (0, 1, 256, 16384, 65535):
            self.assertEqual(judge(lane(level, [(5, level)])), faulty(3, 8), level)

    def test_a_gain_that_is_the_one_before(self):
        for level in (0, 1, 256, 16384, 65535):
            self.assertEqual(judge(lane(77, [(5, level), (6, level)])), faulty(3, 14), level)

    def test_the_last_of_64_points(self):
        self.assertEqual(judge(lane(0, SIXTY_FOUR[:63] + [(630, 64)])), faulty(3, 382))
        self.assertEqual(judge(lane(0, SIXTY_FOUR[:63] + [(640, 63)])), faulty(3, 386))

    def test_each_number_is_looked_at_once_its_bytes_are_there(self):
        whole = lane(7, [(5, 9), (5, 9)])
        self.assertEqual(judge(whole[:13]), faulty(1, 13))
        self.assertEqual(judge(whole[:14]), faulty(3, 10))
        whole = lane(7, [(5, 9), (6, 9)])
        self.assertEqual(judge(whole[:15]), faulty(1, 15))
        self.assertEqual(judge(whole), faulty(3, 14))


class BytesLeftOver(unittest.TestCase):
    def test_one_byte(self):
        for over in (0, 255):
            self.assertEqual(judge([0, 64, 0, 0, over]), faulty(4, 4))
            self.assertEqual(judge(THREE + [over]), faulty(4, 22))
            self.assertEqual(judge(lane(0, SIXTY_FOUR) + [over]), faulty(4, 388))

    def test_many_bytes(self):
        self.assertEqual(judge(THREE + [1, 2, 3]), faulty(4, 22))
        self.assertEqual(judge(THREE + THREE), faulty(4, 22))

    def test_more_points_than_told(self):
        self.assertEqual(judge(lane(0, [(1, 9)], 0)), faulty(4, 4))
        self.assertEqual(judge(lane(0, [(1, 9), (2, 8)], 1)), faulty(4, 10))


class SeveralFaults(unittest.TestCase):
    def test_the_first_from_the_front_is_told(self):
        self.assertEqual(judge(lane(9, [(1, 9), (1, 9), (0, 9)])), faulty(3, 8))
        self.assertEqual(judge(lane(9, [(1, 8), (1, 8), (0, 8)])), faulty(3, 10))
        self.assertEqual(judge(lane(9, [(1, 8), (0, 8), (0, 8)])), faulty(2, 10))
        self.assertEqual(judge(lane(9, [(2, 8), (3, 8), (1, 7)])), faulty(3, 14))
        self.assertEqual(judge(lane(9, [(0, 9), (0, 9)])), faulty(2, 4))

    def test_a_fault_goes_before_the_end_behind_it(self):
        self.assertEqual(judge(lane(9, [(1, 9)], 2)), faulty(3, 8))
        self.assertEqual(judge(lane(9, [(2, 8), (1, 7)], 3)), faulty(3, 10))
        self.assertEqual(judge(lane(9, [(16777216, 8)], 64)), faulty(2, 4))

    def test_a_fault_goes_before_bytes_left_over(self):
        self.assertEqual(judge(lane(9, [(1, 9)]) + [1]), faulty(3, 8))
        self.assertEqual(judge(lane(9, [(0, 8)]) + [1]), faulty(2, 4))
        self.assertEqual(judge(lane(9, [(2, 8), (2, 7)]) + [1]), faulty(3, 10))

    def test_a_later_tick_of_0_is_out_of_its_bounds_before_it_is_no_more_than_the_one_before(self):
        self.assertEqual(judge(lane(9, [(2, 8), (0, 7)])), faulty(2, 10))


class HowManyBytes(unittest.TestCase):
    def test_1024_bytes_are_looked_at(self):
        self.assertEqual(judge([0] * 1024), faulty(4, 4))
        whole = lane(0, SIXTY_FOUR)
        self.assertEqual(judge(whole + [0] * (1024 - len(whole))), faulty(4, 388))
        self.assertEqual(judge([255] * 1024), faulty(2, 2))

    def test_1025_bytes_are_refused_whatever_they_tell(self):
        whole = lane(0, SIXTY_FOUR)
        self.assertEqual(judge(whole + [0] * (1025 - len(whole))), [-2, 0, 0])
        self.assertEqual(judge([0] * 1025), [-2, 0, 0])
        self.assertEqual(judge([255] * 1025), [-2, 0, 0])
        self.assertEqual(judge([255] * 3000), [-2, 0, 0])


class JudgeAsTheDocumentSays(unittest.TestCase):
    def test_many(self):
        kinds = {}
        for l in model.spoilt_lanes(random.Random(7), 4000):
            self.assertEqual(judge(l), model.judge(l), l)
            kind = tuple(judge(l)[:1] + judge(l)[3:4] * (judge(l)[0] == -6))
            kinds[kind] = kinds.get(kind, 0) + 1
        # Rows of bytes that missed a kind would tell nothing of it.
        self.assertEqual(sorted(kinds), [(-6, 1), (-6, 2), (-6, 3), (-6, 4), (0,)])
        self.assertGreater(min(kinds.values()), 100)

    def test_short_rows_of_few_bytes(self):
        source = random.Random(8)
        for _ in range(4000):
            l = [source.choice([0, 0, 0, 1, 2]) for _ in range(source.randint(0, 17))]
            self.assertEqual(judge(l), model.judge(l), l)
