import random
import unittest

from lanedesk.lanes import at, cut, judge
from tests import model
from tests.model import FAULTS, FULL, GREATEST_NUMBER, SIXTY_FOUR, all_said, bytes_told, lane, lane_told

END = 16777216

L = lane(1000, [(5, 2000), (8, 3000), (20, 500)])


class OrdinaryCuts(unittest.TestCase):
    def test_a_lane_of_no_point(self):
        for start, many in ((0, 0), (0, 5), (3, 4), (0, END), (16777215, 1)):
            self.assertEqual(cut(start, many, lane(9)), lane_told(9))

    def test_one_point(self):
        l = lane(9, [(10, 4)])
        self.assertEqual(cut(2, 3, l), lane_told(9, [(7, 4)]))
        self.assertEqual(cut(2, 3, l), [10, 10, 9, 0, 1, 0, 7, 0, 0, 0, 4, 0, 0])
        self.assertEqual(cut(8, 5, l), lane_told(9, [(8, 4)]))
        self.assertEqual(cut(12, 5, l), lane_told(9, [(10, 4)]))

    def test_several_points(self):
        self.assertEqual(cut(2, 1, L), lane_told(1000, [(4, 2000), (7, 3000), (19, 500)]))
        self.assertEqual(cut(6, 1, L), lane_told(1000, [(5, 2000), (7, 3000), (19, 500)]))
        self.assertEqual(cut(10, 6, L), lane_told(1000, [(5, 2000), (8, 3000), (14, 500)]))
        self.assertEqual(cut(30, 6, L), bytes_told(L))

    def test_64_points(self):
        self.assertEqual(cut(1, 4, FULL), lane_told(0, [(tick - 4, level) for tick, level in SIXTY_FOUR]))
        self.assertEqual(cut(15, 10, FULL), lane_told(0, SIXTY_FOUR[:1] + [(15, 2)] +
                                                      [(tick - 10, level) for tick, level in SIXTY_FOUR[2:]]))


class PointsOfWhatIsCut(unittest.TestCase):
    def test_a_point_at_from(self):
        self.assertEqual(cut(5, 1, L), lane_told(1000, [(5, 2000), (7, 3000), (19, 500)]))
        self.assertEqual(cut(5, 2, L), lane_told(1000, [(5, 2000), (6, 3000), (18, 500)]))

    def test_a_point_within(self):
        self.assertEqual(cut(4, 3, L), lane_told(1000, [(4, 2000), (5, 3000), (17, 500)]))
        self.assertEqual(cut(3, 3, L), lane_told(1000, [(3, 2000), (5, 3000), (17, 500)]))

    def test_a_point_at_from_and_many(self):
        self.assertEqual(cut(3, 2, L), lane_told(1000, [(3, 2000), (6, 3000), (18, 500)]))
        self.assertEqual(cut(5, 3, L), lane_told(1000, [(5, 3000), (17, 500)]))

    def test_several_points_within(self):
        self.assertEqual(cut(4, 6, L), lane_told(1000, [(4, 3000), (14, 500)]))
        self.assertEqual(cut(4, 16, L), lane_told(1000, [(4, 500)]))
        self.assertEqual(cut(4, 100, L), lane_told(1000, [(4, 500)]))

    def test_points_before_stay(self):
        self.assertEqual(cut(6, 100, L), lane_told(1000, [(5, 2000), (6, 500)]))
        self.assertEqual(cut(9, 11, L), lane_told(1000, [(5, 2000), (8, 3000), (9, 500)]))

    def test_gains_that_are_the_same_meet(self):
        self.assertEqual(cut(4, 5, lane(7, [(5, 8), (8, 7), (30, 9)])), lane_told(7, [(25, 9)]))
        self.assertEqual(cut(5, 3, lane(7, [(5, 8), (8, 7), (30, 9)])), lane_told(7, [(27, 9)]))
        self.assertEqual(cut(6, 3, lane(7, [(5, 8), (6, 9), (7, 5), (9, 8)])), lane_told(7, [(5, 8)]))
        self.assertEqual(cut(4, 5, lane(7, [(5, 8), (8, 7)])), lane_told(7))


class Edges(unittest.TestCase):
    def test_many_of_0(self):
        for start in (0, 1, 5, 8, 16777215, END):
            for l in (lane(9), L, FULL):
                self.assertEqual(cut(start, 0, l), bytes_told(l), start)

    def test_from_tick_0(self):
        self.assertEqual(cut(0, 4, L), lane_told(1000, [(1, 2000), (4, 3000), (16, 500)]))
        self.assertEqual(cut(0, 5, L), lane_told(2000, [(3, 3000), (15, 500)]))
        self.assertEqual(cut(0, 6, L), lane_told(2000, [(2, 3000), (14, 500)]))
        self.assertEqual(cut(0, 19, L), lane_told(3000, [(1, 500)]))
        self.assertEqual(cut(0, 20, L), lane_told(500))

    def test_all_ticks(self):
        self.assertEqual(cut(0, END, L), lane_told(500))
        self.assertEqual(cut(0, END, FULL), lane_told(64))
        self.assertEqual(cut(0, END, lane(3, [(16777215, 4)])), lane_told(4))
        self.assertEqual(cut(0, 16777215, lane(3, [(16777215, 4)])), lane_told(4))
        self.assertEqual(cut(0, 16777214, lane(3, [(16777215, 4)])), lane_told(3, [(1, 4)]))

    def test_to_the_end_of_the_ticks(self):
        # What stands behind all ticks is what the last point says.
        self.assertEqual(cut(6, END - 6, L), lane_told(1000, [(5, 2000), (6, 500)]))
        self.assertEqual(cut(16777215, 1, lane(3, [(16777215, 4)])), lane_told(3, [(16777215, 4)]))
        self.assertEqual(cut(16777214, 2, lane(3, [(16777215, 4)])), lane_told(3, [(16777214, 4)]))
        self.assertEqual(cut(16777214, 1, lane(3, [(16777215, 4)])), lane_told(3, [(16777214, 4)]))

    def test_the_last_tick_comes_forward(self):
        self.assertEqual(cut(10, 16777200, lane(3, [(16777215, 4)])), lane_told(3, [(15, 4)]))

    def test_one_more_than_all_ticks(self):
        self.assertEqual(cut(16777215, 2, L), [-1, 0, 0])
        self.assertEqual(cut(0, END + 1, L), [-1, 0, 0])
        self.assertEqual(cut(END, 1, L), [-1, 0, 0])
        self.assertEqual(cut(END + 1, 0, L), [-1, 0, 0])

    def test_numbers_up_to_the_greatest(self):
        for far in (2 ** 32, 2 ** 63, GREATEST_NUMBER):
            self.assertEqual(cut(far, 0, L), [-1, 0, 0])
            self.assertEqual(cut(0, far, L), [-1, 0, 0])
            self.assertEqual(cut(far, far, L), [-1, 0, 0])
        # Sums that would come round to a small number where numbers end.
        self.assertEqual(cut(GREATEST_NUMBER, 1, L), [-1, 0, 0])
        self.assertEqual(cut(9, GREATEST_NUMBER, L), [-1, 0, 0])


class CutRefusals(unittest.TestCase):
    def test_more_than_1024_bytes(self):
        self.assertEqual(cut(0, 1, [0] * 1025), [-2, 0, 0])
        self.assertEqual(cut(0, 1, [255] * 3000), [-2, 0, 0])
        self.assertEqual(cut(0, 1, [0] * 1024), [-6, 0, 2, 4, 4])

    def test_each_fault(self):
        for l, kind, place in FAULTS:
            self.assertEqual(cut(0, 0, l), [-6, 0, 2, kind, place])

    def test_the_order(self):
        for l, kind, place in FAULTS:
            self.assertEqual(cut(GREATEST_NUMBER, 1, l), [-6, 0, 2, kind, place])
        self.assertEqual(cut(GREATEST_NUMBER, 1, [0] * 1025), [-2, 0, 0])
        self.assertEqual(cut(GREATEST_NUMBER, 1, FULL), [-1, 0, 0])


class TickForTick(unittest.TestCase):
    def test_many(self):
        source = random.Random(29)
        for base in (0, 1, 600, 16777170):
            for _ in range(80):
                l = model.a_lane(source, base)
                start = source.randint(base, base + 45)
                many = source.choice([0, 1, source.randint(0, 60), END - start])
                if start + many > END:
                    continue
                answer = cut(start, many, l)
                self.assertEqual(answer[:2] + answer[-1:], [len(answer) - 3] * 2 + [0])
                new = answer[2:-1]
                # Bytes that said a gain again, or that had a point beyond the ticks, would have a fault.
                self.assertEqual(judge(new)[0], 0)
                for tick in list(range(max(base - 2, 0), min(base + 70, END))) + [0, 1, 16777215]:
                    expected = at(tick if tick < start else tick + many, l)
                    self.assertEqual(at(tick, new), expected, (start, many, l, tick))

    def test_of_a_full_lane(self):
        for start in (0, 1, 9, 10, 11, 15, 20, 333, 639, 640, 641, 700):
            for many in (0, 1, 9, 10, 11, 25, 640):
                new = cut(start, many, FULL)[2:-1]
                self.assertEqual(judge(new)[0], 0)
                said = all_said(FULL, 1600)
                self.assertEqual(all_said(new, 720), (said[:start] + said[start + many:])[:720])


class CutAsTheDocumentSays(unittest.TestCase):
    def test_many(self):
        source = random.Random(30)
        for base in (0, 1, 600, 16777120):
            for _ in range(300):
                l = model.a_lane(source, base, 95, source.choice([8, 64]))
                start = source.choice([0, source.randint(base, base + 99)])
                many = source.choice([0, 1, source.randint(0, 99), max(END - start, 0), END - base])
                self.assertEqual(cut(start, many, l), model.cut(start, many, l), (start, many, l))

    def test_many_of_spoilt_lanes(self):
        source = random.Random(31)
        for l in model.spoilt_lanes(source, 1500):
            start, many = [source.choice([0, 1, 5, 200, 16777000]) for _ in range(2)]
            self.assertEqual(cut(start, many, l), model.cut(start, many, l), (start, many, l))
