import random
import unittest

from lanedesk.lanes import at, judge, paste
from tests import model
from tests.model import FAULTS, FULL, GREATEST_NUMBER, SIXTY_FOUR, bytes_told, lane, lane_told

END = 16777216

L = lane(1000, [(5, 2000), (8, 3000), (20, 500)])
K = lane(7, [(4, 8), (6, 9), (12, 7), (30, 1)])


class OrdinaryPastes(unittest.TestCase):
    def test_lanes_of_no_point(self):
        self.assertEqual(paste(3, 4, 6, lane(1), lane(2)), lane_told(1, [(6, 2), (10, 1)]))
        self.assertEqual(paste(3, 4, 6, lane(1), lane(2)),
                         [16, 16, 1, 0, 2, 0, 6, 0, 0, 0, 2, 0, 10, 0, 0, 0, 1, 0, 0])

    def test_points_within_what_is_pasted(self):
        self.assertEqual(paste(3, 6, 100, lane(1), K), lane_told(1, [(100, 7), (101, 8), (103, 9), (106, 1)]))

    def test_over_points_of_l(self):
        self.assertEqual(paste(3, 6, 4, L, K),
                         lane_told(1000, [(4, 7), (5, 8), (7, 9), (10, 3000), (20, 500)]))

    def test_points_at_from_within_and_at_from_and_many(self):
        self.assertEqual(paste(4, 2, 100, lane(1), K), lane_told(1, [(100, 8), (102, 1)]))
        self.assertEqual(paste(4, 3, 100, lane(1), K), lane_told(1, [(100, 8), (102, 9), (103, 1)]))
        self.assertEqual(paste(5, 1, 100, lane(1), K), lane_told(1, [(100, 8), (101, 1)]))
        self.assertEqual(paste(5, 7, 100, lane(1), K), lane_told(1, [(100, 8), (101, 9), (107, 1)]))
        self.assertEqual(paste(5, 8, 100, lane(1), K), lane_told(1, [(100, 8), (101, 9), (107, 7), (108, 1)]))

    def test_points_of_l_at_to_within_at_to_and_many_and_behind(self):
        self.assertEqual(paste(0, 3, 5, L, lane(7)), lane_told(1000, [(5, 7), (8, 3000), (20, 500)]))
        self.assertEqual(paste(0, 2, 5, L, lane(7)), lane_told(1000, [(5, 7), (7, 2000), (8, 3000), (20, 500)]))
        self.assertEqual(paste(0, 4, 4, L, lane(7)), lane_told(1000, [(4, 7), (8, 3000), (20, 500)]))
        self.assertEqual(paste(0, 30, 4, L, lane(7)), lane_told(1000, [(4, 7), (34, 500)]))
        self.assertEqual(paste(0, 3, 30, L, lane(7)),
                         lane_told(1000, [(5, 2000), (8, 3000), (20, 500), (30, 7), (33, 500)]))

    def test_back_from_a_later_place(self):
        self.assertEqual(paste(11, 3, 1, lane(50), K), lane_told(50, [(1, 9), (2, 7), (4, 50)]))

    def test_64_points(self):
        self.assertEqual(paste(100, 100, 100, FULL, FULL), bytes_told(FULL))
        self.assertEqual(paste(0, END, 0, lane(9), FULL), bytes_told(FULL))
        self.assertEqual(paste(0, END, 0, FULL, K), bytes_told(K))


class FewestPoints(unittest.TestCase):
    def test_both_lanes_say_the_same(self):
        self.assertEqual(paste(3, 9, 40, lane(5), lane(5)), lane_told(5))
        self.assertEqual(paste(8, 4, 8, L, lane(3000)), bytes_told(L))
        self.assertEqual(paste(21, 9, 30, L, lane(500)), bytes_told(L))

    def test_gains_meet_at_the_begin(self):
        self.assertEqual(paste(0, 3, 5, L, lane(1000)), lane_told(1000, [(8, 3000), (20, 500)]))
        self.assertEqual(paste(3, 3, 5, L, lane(1000, [(5, 6)])), lane_told(1000, [(7, 6), (8, 3000), (20, 500)]))

    def test_gains_meet_at_the_end(self):
        self.assertEqual(paste(0, 2, 6, L, lane(3000)), lane_told(1000, [(5, 2000), (6, 3000), (20, 500)]))
        self.assertEqual(paste(0, 3, 5, L, lane(4, [(2, 3000)])), lane_told(1000, [(5, 4), (7, 3000), (20, 500)]))

    def test_gains_meet_at_both(self):
        self.assertEqual(paste(0, 5, 5, lane(1, [(5, 2), (10, 1)]), lane(1)), lane_told(1))


class OntoItself(unittest.TestCase):
    def test_onto_the_same_place(self):
        for l in (lane(3), L, K, FULL):
            for start, many in ((0, 0), (0, 9), (5, 3), (4, 17), (0, END), (16777215, 1), (END, 0)):
                self.assertEqual(paste(start, many, start, l, l), bytes_told(l), (start, many))

    def test_onto_a_later_place_with_an_overlap(self):
        # What's pasted is what the lane said before, not what was just pasted.
        self.assertEqual(paste(3, 8, 5, L, L), lane_told(1000, [(7, 2000), (10, 3000), (20, 500)]))

    def test_onto_an_earlier_place_with_an_overlap(self):
        self.assertEqual(paste(5, 15, 3, L, L), lane_told(1000, [(3, 2000), (6, 3000), (20, 500)]))
        self.assertEqual(paste(5, 16, 3, L, L),
                         lane_told(1000, [(3, 2000), (6, 3000), (18, 500), (19, 3000), (20, 500)]))
        self.assertEqual(paste(6, 10, 1, L, L), lane_told(1000, [(1, 2000), (3, 3000), (20, 500)]))

    def test_onto_a_place_behind(self):
        self.assertEqual(paste(4, 5, 30, L, L), lane_told(1000, [(5, 2000), (8, 3000), (20, 500), (30, 1000), (31, 2000),
                                                                 (34, 3000), (35, 500)]))


class Edges(unittest.TestCase):
    def test_many_of_0(self):
        for start in (0, 5, 16777215, END):
            for to in (0, 5, 8, 16777215, END):
                self.assertEqual(paste(start, 0, to, L, K), bytes_told(L), (start, to))
                self.assertEqual(paste(start, 0, to, FULL, K), bytes_told(FULL), (start, to))

    def test_from_of_0(self):
        self.assertEqual(paste(0, 5, 10, lane(1), K), lane_told(1, [(10, 7), (14, 8), (15, 1)]))

    def test_to_of_0(self):
        self.assertEqual(paste(3, 5, 0, L, K), lane_told(7, [(1, 8), (3, 9), (5, 2000), (8, 3000), (20, 500)]))
        self.assertEqual(paste(0, 1, 0, lane(1), lane(2)), lane_told(2, [(1, 1)]))
        self.assertEqual(paste(9, 5, 0, L, lane(2000)), lane_told(2000, [(8, 3000), (20, 500)]))

    def test_to_and_many_of_all_ticks(self):
        self.assertEqual(paste(0, END - 10, 10, L, K),
                         lane_told(1000, [(5, 2000), (8, 3000), (10, 7), (14, 8), (16, 9), (22, 7), (40, 1)]))
        self.assertEqual(paste(0, 1, 16777215, L, K), lane_told(1000, [(5, 2000), (8, 3000), (20, 500), (16777215, 7)]))

    def test_from_and_many_of_all_ticks(self):
        l = lane(3, [(16777215, 4)])
        self.assertEqual(paste(16777215, 1, 6, lane(9), l), lane_told(9, [(6, 4), (7, 9)]))
        self.assertEqual(paste(16777213, 3, 6, lane(9), l), lane_told(9, [(6, 3), (8, 4), (9, 9)]))
        self.assertEqual(paste(6, 16777210, 0, lane(9), l), lane_told(3, [(16777209, 4), (16777210, 9)]))

    def test_a_point_that_comes_to_the_last_tick(self):
        self.assertEqual(paste(0, 5, 16777211, lane(1), K), lane_told(1, [(16777211, 7), (16777215, 8)]))
        self.assertEqual(paste(0, 4, 16777212, lane(1), K), lane_told(1, [(16777212, 7)]))

    def test_one_more_than_all_ticks(self):
        self.assertEqual(paste(16777215, 2, 6, L, K), [-1, 0, 0])
        self.assertEqual(paste(6, 2, 16777215, L, K), [-1, 0, 0])
        self.assertEqual(paste(END, 1, 6, L, K), [-1, 0, 0])
        self.assertEqual(paste(6, 1, END, L, K), [-1, 0, 0])
        self.assertEqual(paste(END + 1, 0, 6, L, K), [-1, 0, 0])
        self.assertEqual(paste(6, 0, END + 1, L, K), [-1, 0, 0])
        self.assertEqual(paste(0, END + 1, 0, L, K), [-1, 0, 0])

    def test_numbers_up_to_the_greatest(self):
        for far in (2 ** 32, 2 ** 63, GREATEST_NUMBER):
            self.assertEqual(paste(far, 0, 0, L, K), [-1, 0, 0])
            self.assertEqual(paste(0, far, 0, L, K), [-1, 0, 0])
            self.assertEqual(paste(0, 0, far, L, K), [-1, 0, 0])
            self.assertEqual(paste(far, far, far, L, K), [-1, 0, 0])
        # Sums that would come round to a small number where numbers end.
        self.assertEqual(paste(GREATEST_NUMBER, 1, 0, L, K), [-1, 0, 0])
        self.assertEqual(paste(0, 1, GREATEST_NUMBER, L, K), [-1, 0, 0])
        self.assertEqual(paste(1, GREATEST_NUMBER, 1, L, K), [-1, 0, 0])


class HowManyPoints(unittest.TestCase):
    def test_64_points_are_told(self):
        self.assertEqual(paste(0, 1, 640, FULL, lane(500)), [-3, 0, 0])
        self.assertEqual(paste(0, 1, 640, lane(0, SIXTY_FOUR[:63]), lane(500)), [-3, 0, 0])
        self.assertEqual(paste(0, 1, 640, lane(0, SIXTY_FOUR[:62]), lane(500)),
                         lane_told(0, SIXTY_FOUR[:62] + [(640, 500), (641, 62)]))
        self.assertEqual(paste(0, END - 640, 640, FULL, lane(500)), lane_told(0, SIXTY_FOUR[:63] + [(640, 500)]))

    def test_65_points_are_refused(self):
        self.assertEqual(paste(0, END - 645, 645, FULL, lane(500)), [-3, 0, 0])
        self.assertEqual(paste(0, 5, 0, FULL, lane(500)), [-3, 0, 0])
        self.assertEqual(paste(0, 5, 0, lane(0, SIXTY_FOUR[:63]), lane(500)), lane_told(500, [(5, 0)] + SIXTY_FOUR[:63]))

    def test_two_full_lanes(self):
        other = lane(1000, [(tick, 1000 - level) for tick, level in SIXTY_FOUR])
        # 32 points before tick 325, then 936 which is said there, then 32 points behind it, or 33.
        self.assertEqual(paste(0, END, 0, FULL, other), bytes_told(other))
        self.assertEqual(paste(330, END - 330, 330, FULL, other),
                         lane_told(0, SIXTY_FOUR[:32] + [(tick, 1000 - level) for tick, level in SIXTY_FOUR[32:]]))
        self.assertEqual(paste(325, END - 325, 325, FULL, other), [-3, 0, 0])

    def test_points_that_are_gone_are_not_counted(self):
        self.assertEqual(paste(0, 700, 0, FULL, lane(500)), lane_told(500, [(700, 64)]))
        self.assertEqual(paste(0, 20, 5, FULL, lane(500)), lane_told(0, [(5, 500), (25, 2)] + SIXTY_FOUR[2:]))


class PasteRefusals(unittest.TestCase):
    def test_more_than_1024_bytes_in_either_lane_or_both(self):
        for many in (1025, 3000):
            self.assertEqual(paste(0, 1, 0, [0] * many, K), [-2, 0, 0])
            self.assertEqual(paste(0, 1, 0, L, [0] * many), [-2, 0, 0])
            self.assertEqual(paste(0, 1, 0, [0] * many, [255] * many), [-2, 0, 0])
        self.assertEqual(paste(0, 1, 0, [0] * 1024, K), [-6, 0, 2, 4, 4])
        self.assertEqual(paste(0, 1, 0, L, [0] * 1024), [-6, 0, 2, 20, 4])

    def test_each_fault_of_l(self):
        for l, kind, place in FAULTS:
            self.assertEqual(paste(0, 1, 0, l, K), [-6, 0, 2, kind, place])

    def test_each_fault_of_k_has_a_kind_of_16_more(self):
        for k, kind, place in FAULTS:
            self.assertEqual(paste(0, 1, 0, L, k), [-6, 0, 2, kind + 16, place])

    def test_faults_in_both_lanes(self):
        for l, kind, place in FAULTS:
            for k, other_kind, other_place in FAULTS:
                self.assertEqual(paste(0, 1, 0, l, k), [-6, 0, 2, kind, place])

    def test_that_either_is_too_long_goes_before_faults(self):
        for faulty, kind, place in FAULTS:
            self.assertEqual(paste(0, 1, 0, faulty, [0] * 1025), [-2, 0, 0])
            self.assertEqual(paste(0, 1, 0, [0] * 1025, faulty), [-2, 0, 0])

    def test_faults_go_before_what_is_out_of_bounds(self):
        for faulty, kind, place in FAULTS:
            self.assertEqual(paste(GREATEST_NUMBER, 1, 0, faulty, K), [-6, 0, 2, kind, place])
            self.assertEqual(paste(0, 1, GREATEST_NUMBER, L, faulty), [-6, 0, 2, kind + 16, place])
        self.assertEqual(paste(0, END + 1, 0, [0] * 1025, K), [-2, 0, 0])
        self.assertEqual(paste(0, END + 1, 0, L, [0] * 1025), [-2, 0, 0])

    def test_what_is_out_of_bounds_goes_before_too_many_points(self):
        self.assertEqual(paste(0, 5, 0, FULL, lane(500)), [-3, 0, 0])
        self.assertEqual(paste(END, 5, 0, FULL, lane(500)), [-1, 0, 0])
        self.assertEqual(paste(0, END, 5, FULL, lane(500)), [-1, 0, 0])


class TickForTick(unittest.TestCase):
    def test_many(self):
        source = random.Random(26)
        for base in (0, 1, 600, 16777170):
            for _ in range(60):
                l, k = model.a_lane(source, base), model.a_lane(source, base)
                start, to = source.randint(base, base + 45), source.randint(base, base + 45)
                many = source.choice([0, 1, 20, END - max(start, to)])
                if max(start, to) + many > END or many < 0:
                    continue
                answer = paste(start, many, to, l, k)
                self.assertEqual(answer[:2] + answer[-1:], [len(answer) - 3] * 2 + [0])
                new = answer[2:-1]
                # Bytes that said a gain again, or that had a point beyond the ticks, would have a fault.
                self.assertEqual(judge(new)[0], 0)
                for tick in list(range(max(base - 2, 0), min(base + 100, END))) + [0, 1, 16777215]:
                    expected = at(tick - to + start, k) if to <= tick < to + many else at(tick, l)
                    self.assertEqual(at(tick, new), expected, (start, many, to, l, k, tick))


class PasteAsTheDocumentSays(unittest.TestCase):
    def test_many(self):
        source = random.Random(27)
        told = {}
        for base in (0, 1, 600, 16777120):
            for _ in range(300):
                most = source.choice([8, 64])
                l, k = model.a_lane(source, base, 95, most), model.a_lane(source, base, 95, most)
                start, to = source.randint(base, base + 99), source.randint(base, base + 99)
                many = source.choice([0, 1, source.randint(0, 99), max(END - max(start, to), 0), END - base])
                answer = paste(start, many, to, l, k)
                self.assertEqual(answer, model.paste(start, many, to, l, k), (start, many, to, l, k))
                told[min(answer[0], 0)] = told.get(min(answer[0], 0), 0) + 1
        self.assertEqual(sorted(told), [-3, -1, 0])
        self.assertGreater(min(told.values()), 20, told)

    def test_many_of_spoilt_lanes(self):
        source = random.Random(28)
        for l, k in zip(model.spoilt_lanes(source, 1500), model.spoilt_lanes(source, 1500)):
            start, many, to = [source.choice([0, 1, 5, 200, 16777000]) for _ in range(3)]
            self.assertEqual(paste(start, many, to, l, k), model.paste(start, many, to, l, k), (start, many, to, l, k))
