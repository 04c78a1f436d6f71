import random
import unittest

from lanedesk.lanes import at, judge, open_of
from tests import model
from tests.model import FAULTS, FULL, GREATEST_NUMBER, SIXTY_FOUR, all_said, bytes_told, lane, lane_told

END = 16777216

L = lane(1000, [(5, 2000), (8, 3000), (20, 500)])


class OrdinaryOpenings(unittest.TestCase):
    def test_a_lane_of_no_point(self):
        for start, many in ((0, 0), (0, 5), (3, 4), (0, END), (16777215, 1)):
            self.assertEqual(open_of(start, many, lane(9)), lane_told(9))

    def test_one_point(self):
        l = lane(9, [(10, 4)])
        self.assertEqual(open_of(2, 3, l), lane_told(9, [(13, 4)]))
        self.assertEqual(open_of(2, 3, l), [10, 10, 9, 0, 1, 0, 13, 0, 0, 0, 4, 0, 0])
        self.assertEqual(open_of(9, 3, l), lane_told(9, [(13, 4)]))
        self.assertEqual(open_of(10, 3, l), lane_told(9, [(10, 4)]))
        self.assertEqual(open_of(11, 3, l), lane_told(9, [(10, 4)]))

    def test_at_a_point(self):
        # What stood at the tick stands in what's put in and behind it.
        self.assertEqual(open_of(5, 4, L), lane_told(1000, [(5, 2000), (12, 3000), (24, 500)]))
        self.assertEqual(open_of(8, 4, L), lane_told(1000, [(5, 2000), (8, 3000), (24, 500)]))
        self.assertEqual(open_of(20, 4, L), bytes_told(L))

    def test_between_two_points(self):
        self.assertEqual(open_of(6, 4, L), lane_told(1000, [(5, 2000), (12, 3000), (24, 500)]))
        self.assertEqual(open_of(7, 4, L), lane_told(1000, [(5, 2000), (12, 3000), (24, 500)]))
        self.assertEqual(open_of(4, 4, L), lane_told(1000, [(9, 2000), (12, 3000), (24, 500)]))

    def test_behind_all_points(self):
        self.assertEqual(open_of(21, 4, L), bytes_told(L))

    def test_64_points(self):
        self.assertEqual(open_of(0, 7, FULL), lane_told(0, [(tick + 7, level) for tick, level in SIXTY_FOUR]))
        self.assertEqual(open_of(320, 7, FULL), lane_told(0, SIXTY_FOUR[:32] +
                                                          [(tick + 7, level) for tick, level in SIXTY_FOUR[32:]]))
        self.assertEqual(open_of(640, 7, FULL), bytes_told(FULL))


class Edges(unittest.TestCase):
    def test_many_of_0(self):
        for start in (0, 1, 5, 8, 16777215, END):
            for l in (lane(9), L, FULL):
                self.assertEqual(open_of(start, 0, l), bytes_told(l), start)

    def test_at_tick_0(self):
        self.assertEqual(open_of(0, 4, L), lane_told(1000, [(9, 2000), (12, 3000), (24, 500)]))
        self.assertEqual(open_of(0, 1, lane(9, [(1, 4)])), lane_told(9, [(2, 4)]))

    def test_points_that_come_just_to_the_last_tick(self):
        self.assertEqual(open_of(0, 16777195, L), lane_told(1000, [(16777200, 2000), (16777203, 3000), (16777215, 500)]))
        self.assertEqual(open_of(3, 1, lane(9, [(16777214, 4)])), lane_told(9, [(16777215, 4)]))

    def test_points_that_go_beyond_are_gone(self):
        self.assertEqual(open_of(0, 16777196, L), lane_told(1000, [(16777201, 2000), (16777204, 3000)]))
        self.assertEqual(open_of(0, 16777207, L), lane_told(1000, [(16777212, 2000), (16777215, 3000)]))
        self.assertEqual(open_of(0, 16777208, L), lane_told(1000, [(16777213, 2000)]))
        self.assertEqual(open_of(6, 16777208, L), lane_told(1000, [(5, 2000)]))
        self.assertEqual(open_of(3, 1, lane(9, [(16777215, 4)])), lane_told(9))

    def test_to_the_end_of_the_ticks(self):
        self.assertEqual(open_of(0, END, L), lane_told(1000))
        self.assertEqual(open_of(0, END, FULL), lane_told(0))
        self.assertEqual(open_of(6, END - 6, L), lane_told(1000, [(5, 2000)]))
        self.assertEqual(open_of(8, END - 8, L), lane_told(1000, [(5, 2000), (8, 3000)]))
        self.assertEqual(open_of(16777215, 1, lane(9, [(16777215, 4)])), lane_told(9, [(16777215, 4)]))
        self.assertEqual(open_of(16777214, 1, lane(9, [(16777215, 4)])), lane_told(9))
        self.assertEqual(open_of(16777214, 2, lane(9, [(16777214, 4), (16777215, 5)])), lane_told(9, [(16777214, 4)]))

    def test_one_more_than_all_ticks(self):
        self.assertEqual(open_of(16777215, 2, L), [-1, 0, 0])
        self.assertEqual(open_of(0, END + 1, L), [-1, 0, 0])
        self.assertEqual(open_of(END, 1, L), [-1, 0, 0])
        self.assertEqual(open_of(END + 1, 0, L), [-1, 0, 0])

    def test_numbers_up_to_the_greatest(self):
        for far in (2 ** 32, 2 ** 63, GREATEST_NUMBER):
            self.assertEqual(open_of(far, 0, L), [-1, 0, 0])
            self.assertEqual(open_of(0, far, L), [-1, 0, 0])
            self.assertEqual(open_of(far, far, L), [-1, 0, 0])
        # Sums that would come round to a small number where numbers end.
        self.assertEqual(open_of(GREATEST_NUMBER, 1, L), [-1, 0, 0])
        self.assertEqual(open_of(9, GREATEST_NUMBER, L), [-1, 0, 0])


class OpenRefusals(unittest.TestCase):
    def test_more_than_1024_bytes(self):
        self.assertEqual(open_of(0, 1, [0] * 1025), [-2, 0, 0])
        self.assertEqual(open_of(0, 1, [255] * 3000), [-2, 0, 0])
        self.assertEqual(open_of(0, 1, [0] * 1024), [-6, 0, 2, 4, 4])

    def test_each_fault(self):
        for l, kind, place in FAULTS:
            self.assertEqual(open_of(0, 0, l), [-6, 0, 2, kind, place])

    def test_the_order(self):
        for l, kind, place in FAULTS:
            self.assertEqual(open_of(GREATEST_NUMBER, 1, l), [-6, 0, 2, kind, place])
        self.assertEqual(open_of(GREATEST_NUMBER, 1, [0] * 1025), [-2, 0, 0])
        self.assertEqual(open_of(GREATEST_NUMBER, 1, FULL), [-1, 0, 0])


class TickForTick(unittest.TestCase):
    def expected(self, start, many, tick, l):
        if tick < start:
            return at(tick, l)
        if tick < start + many:
            return at(start, l)
        return at(tick - many, l)

    def test_many(self):
        source = random.Random(32)
        for base in (0, 1, 600, 16777170):
            for _ in range(80):
                l = model.a_lane(source, base)
                start = source.randint(base, base + 45)
                many = source.choice([0, 1, source.randint(0, 60), END - start])
                if start + many > END:
                    continue
                answer = open_of(start, many, l)
                self.assertEqual(answer[:2] + answer[-1:], [len(answer) - 3] * 2 + [0])
                new = answer[2:-1]
                # Bytes that said a gain again, or that had a point beyond the ticks, would have a fault.
                self.assertEqual(judge(new)[0], 0)
                for tick in list(range(max(base - 2, 0), min(base + 120, END))) + [0, 1, 16777215]:
                    self.assertEqual(at(tick, new), self.expected(start, many, tick, l), (start, many, l, tick))

    def test_of_a_full_lane(self):
        for start in (0, 1, 9, 10, 11, 15, 20, 333, 639, 640, 641, 700):
            for many in (0, 1, 9, 10, 11, 25, 640):
                new = open_of(start, many, FULL)[2:-1]
                self.assertEqual(judge(new)[0], 0)
                said = all_said(FULL, 1400)
                self.assertEqual(all_said(new, 1400), (said[:start] + [said[start]] * many + said[start:])[:1400])


class OpenAsTheDocumentSays(unittest.TestCase):
    def test_many(self):
        source = random.Random(33)
        for base in (0, 1, 600, 16777120):
            for _ in range(300):
                l = model.a_lane(source, base, 95, source.choice([8, 64]))
                start = source.choice([0, source.randint(base, base + 99)])
                many = source.choice([0, 1, source.randint(0, 99), max(END - start, 0), END - base, END - base - 50])
                self.assertEqual(open_of(start, many, l), model.open_of(start, many, l), (start, many, l))

    def test_many_of_spoilt_lanes(self):
        source = random.Random(34)
        for l in model.spoilt_lanes(source, 1500):
            start, many = [source.choice([0, 1, 5, 200, 16777000]) for _ in range(2)]
            self.assertEqual(open_of(start, many, l), model.open_of(start, many, l), (start, many, l))
