import random
import unittest

from lanedesk.lanes import at, heard, judge, pass_of, row
from tests import model
from tests.model import FAULTS, FULL, GREATEST_NUMBER, SIXTY_FOUR, bytes_told, lane, lane_told, let_go, touch

READ, TOUCH, LATCH, WRITE, TRIM = range(5)
MODES = (READ, TOUCH, LATCH, WRITE, TRIM)
END = 16777216

STEP = lane(1000, [(10, 2000)])
SEVERAL = lane(1000, [(5, 2000), (8, 3000), (12, 1000), (20, 500)])


class PassTestCase(unittest.TestCase):
    def check(self, ride, l, ticks):
        """That the lane after a pass says at these ticks what's heard, or what it said, and has no point too many."""
        a, b, mode, back, gain, e = ride
        answer = pass_of(a, b, mode, back, gain, l, e)
        self.assertEqual(answer[:2], [len(answer) - 3] * 2, (ride, l))
        self.assertEqual(answer[-1], 0)
        new = answer[2:-1]
        # Bytes that said a gain again, or that had a point beyond the ticks, would have a fault.
        self.assertEqual(judge(new)[0], 0, (ride, l, new))
        for tick in ticks:
            expected = heard(a, b, mode, back, gain, tick, l, e) if a <= tick < b else at(tick, l)
            self.assertEqual(at(tick, new), expected, (ride, l, tick))
        return new


class OrdinaryPasses(PassTestCase):
    def test_write_without_an_event(self):
        self.assertEqual(pass_of(3, 7, WRITE, 0, 5, lane(9), []), lane_told(9, [(3, 5), (7, 9)]))
        self.assertEqual(pass_of(3, 7, WRITE, 0, 5, lane(9), []),
                         [16, 16, 9, 0, 2, 0, 3, 0, 0, 0, 5, 0, 7, 0, 0, 0, 9, 0, 0])

    def test_write_with_events(self):
        e = touch(4, 6) + let_go(5) + touch(6, 300)
        self.assertEqual(pass_of(3, 8, WRITE, 0, 5, lane(9), e), lane_told(9, [(3, 5), (4, 6), (6, 300), (8, 9)]))

    def test_read(self):
        for l in (lane(9), STEP, SEVERAL, FULL):
            self.assertEqual(pass_of(3, 400, READ, 9, 5, l, touch(4, 6) + let_go(9)), bytes_told(l))

    def test_touch(self):
        self.assertEqual(pass_of(0, 20, TOUCH, 3, 5, STEP, touch(2, 5000) + let_go(4)),
                         lane_told(1000, [(2, 5000), (4, 4000), (5, 3000), (6, 2000), (7, 1000), (10, 2000)]))

    def test_touch_never_let_go(self):
        self.assertEqual(pass_of(0, 20, TOUCH, 3, 5, STEP, touch(2, 5000)),
                         lane_told(1000, [(2, 5000), (20, 2000)]))

    def test_latch(self):
        self.assertEqual(pass_of(0, 20, LATCH, 3, 5, STEP, touch(2, 5000) + let_go(4)),
                         lane_told(1000, [(2, 5000), (20, 2000)]))

    def test_trim(self):
        self.assertEqual(pass_of(2, 20, TRIM, 3, 8192, STEP, touch(15, 32768)),
                         lane_told(1000, [(2, 500), (10, 1000), (15, 4000), (20, 2000)]))

    def test_no_event_leaves_the_lane_in_touch_and_latch(self):
        for l in (lane(9), STEP, SEVERAL, FULL):
            self.assertEqual(pass_of(3, 400, TOUCH, 9, 5, l, []), bytes_told(l))
            self.assertEqual(pass_of(3, 400, LATCH, 9, 5, l, []), bytes_told(l))

    def test_gains_above_65535_count_as_that(self):
        for level in (65535, 65536, GREATEST_NUMBER):
            self.assertEqual(pass_of(3, 7, WRITE, 0, level, lane(9), []), lane_told(9, [(3, 65535), (7, 9)]))
            self.assertEqual(pass_of(3, 7, LATCH, 0, 5, lane(9), touch(4, level)), lane_told(9, [(4, 65535), (7, 9)]))

    def test_trims_beyond_65535_meet(self):
        self.assertEqual(pass_of(2, 30, TRIM, 0, 65535, lane(40000, [(10, 50000), (20, 16384)]), []),
                         lane_told(40000, [(2, 65535), (30, 16384)]))

    def test_trims_that_round_to_the_same_meet(self):
        # Halves of 3 and 5 are both rounded to 2.
        self.assertEqual(pass_of(2, 30, TRIM, 0, 8192, lane(3, [(10, 5), (20, 7)]), []),
                         lane_told(3, [(2, 2), (20, 4), (30, 7)]))


class FewestPoints(PassTestCase):
    def test_write_over_points(self):
        self.assertEqual(pass_of(3, 15, WRITE, 0, 7, SEVERAL, []), lane_told(1000, [(3, 7), (15, 1000), (20, 500)]))

    def test_write_what_the_lane_says_anyway(self):
        self.assertEqual(pass_of(1, 5, WRITE, 0, 1000, SEVERAL, [])[2:-1], SEVERAL)
        self.assertEqual(pass_of(5, 8, WRITE, 0, 2000, SEVERAL, [])[2:-1], SEVERAL)

    def test_write_what_stands_before_a_or_at_b(self):
        self.assertEqual(pass_of(5, 7, WRITE, 0, 1000, SEVERAL, []),
                         lane_told(1000, [(7, 2000), (8, 3000), (12, 1000), (20, 500)]))
        self.assertEqual(pass_of(6, 8, WRITE, 0, 3000, SEVERAL, []),
                         lane_told(1000, [(5, 2000), (6, 3000), (12, 1000), (20, 500)]))
        self.assertEqual(pass_of(5, 12, WRITE, 0, 1000, SEVERAL, []), lane_told(1000, [(20, 500)]))

    def test_a_point_of_the_old_lane_at_a(self):
        self.assertEqual(pass_of(5, 7, WRITE, 0, 7, SEVERAL, []),
                         lane_told(1000, [(5, 7), (7, 2000), (8, 3000), (12, 1000), (20, 500)]))

    def test_a_point_of_the_old_lane_at_b(self):
        self.assertEqual(pass_of(6, 8, WRITE, 0, 7, SEVERAL, []),
                         lane_told(1000, [(5, 2000), (6, 7), (8, 3000), (12, 1000), (20, 500)]))

    def test_points_within_and_behind(self):
        self.assertEqual(pass_of(4, 13, WRITE, 0, 7, SEVERAL, []), lane_told(1000, [(4, 7), (13, 1000), (20, 500)]))
        self.assertEqual(pass_of(30, 40, WRITE, 0, 7, SEVERAL, [])[2:-1], lane(
            1000, [(5, 2000), (8, 3000), (12, 1000), (20, 500), (30, 7), (40, 500)]))

    def test_events_that_change_nothing(self):
        e = touch(4, 5) + touch(5, 5) + let_go(6) + touch(7, 6) + touch(7, 5)
        self.assertEqual(pass_of(3, 9, WRITE, 0, 5, lane(9), e), lane_told(9, [(3, 5), (9, 9)]))
        self.assertEqual(pass_of(3, 9, TOUCH, 4, 5, lane(9), touch(4, 9) + let_go(5)), lane_told(9))

    def test_a_way_back_whose_steps_round_to_the_same(self):
        # From 1 to 0 in 4 steps of 12, 25, 38 and 51: 52, 39, 26 and 13 of 64.
        self.assertEqual(pass_of(3, 20, TOUCH, 4, 5, lane(0), touch(4, 1) + let_go(5)), lane_told(0, [(4, 1), (7, 0)]))


class Edges(PassTestCase):
    def test_a_pass_of_no_ticks(self):
        for mode in MODES:
            for a in (0, 1, 5, 10, 16777215, END):
                for l in (lane(9), STEP, SEVERAL, FULL):
                    self.assertEqual(pass_of(a, a, mode, 16, 7, l, [])[2:-1], l, (mode, a))

    def test_a_pass_of_one_tick(self):
        self.assertEqual(pass_of(5, 6, WRITE, 0, 7, lane(9), []), lane_told(9, [(5, 7), (6, 9)]))

    def test_from_tick_0(self):
        self.assertEqual(pass_of(0, 5, WRITE, 0, 7, lane(9), []), lane_told(7, [(5, 9)]))
        self.assertEqual(pass_of(0, 1, WRITE, 0, 7, lane(9), []), lane_told(7, [(1, 9)]))
        self.assertEqual(pass_of(0, 5, LATCH, 0, 7, lane(9), touch(0, 8) + touch(1, 6)),
                         lane_told(8, [(1, 6), (5, 9)]))
        self.assertEqual(pass_of(0, 8, TOUCH, 1, 7, lane(9), touch(0, 19) + let_go(0)), lane_told(14, [(1, 9)]))

    def test_from_tick_0_onto_the_gain_that_is_behind(self):
        self.assertEqual(pass_of(0, 10, WRITE, 0, 2000, STEP, []), lane_told(2000))

    def test_to_the_end_of_the_ticks(self):
        self.assertEqual(pass_of(5, END, WRITE, 0, 7, STEP, []), lane_told(1000, [(5, 7)]))
        self.assertEqual(pass_of(16777215, END, WRITE, 0, 7, lane(9), []), lane_told(9, [(16777215, 7)]))
        self.assertEqual(pass_of(5, 16777215, WRITE, 0, 7, lane(9), []), lane_told(9, [(5, 7), (16777215, 9)]))

    def test_over_all_ticks(self):
        for l in (lane(9), STEP, SEVERAL, FULL):
            self.assertEqual(pass_of(0, END, WRITE, 0, 7, l, []), lane_told(7))
            self.assertEqual(pass_of(0, END, TRIM, 0, 0, l, []), lane_told(0))
        self.assertEqual(pass_of(0, END, LATCH, 0, 7, STEP, touch(16777215, 8)),
                         lane_told(1000, [(10, 2000), (16777215, 8)]))

    def test_an_event_at_a_and_one_at_the_last_tick(self):
        self.assertEqual(pass_of(3, 9, WRITE, 0, 5, lane(9), touch(3, 6) + touch(8, 4)),
                         lane_told(9, [(3, 6), (8, 4), (9, 9)]))

    def test_the_way_back_is_cut_short_by_the_end_of_the_pass(self):
        self.assertEqual(pass_of(0, 5, TOUCH, 3, 7, lane(1000), touch(2, 5000) + let_go(3)),
                         lane_told(1000, [(2, 5000), (3, 4000), (4, 3000), (5, 1000)]))
        self.assertEqual(pass_of(0, 4, TOUCH, 16, 7, lane(1000), touch(2, 5000) + let_go(3)),
                         lane_told(1000, [(2, 5000), (3, 4812), (4, 1000)]))

    def test_the_way_back_is_cut_short_by_the_end_of_the_ticks(self):
        e = touch(16777213, 5000) + let_go(16777214)
        self.assertEqual(pass_of(0, END, TOUCH, 3, 7, lane(1000), e),
                         lane_told(1000, [(16777213, 5000), (16777214, 4000), (16777215, 3000)]))

    def test_the_way_back_is_cut_short_by_a_new_touch(self):
        e = touch(0, 5000) + let_go(1) + touch(3, 80) + let_go(5)
        self.assertEqual(pass_of(0, 10, TOUCH, 3, 7, lane(1000), e),
                         lane_told(5000, [(1, 4000), (2, 3000), (3, 80), (5, 310), (6, 540), (7, 770), (8, 1000)]))

    def test_a_way_back_of_0_1_and_16(self):
        e = touch(2, 6400) + let_go(4)
        self.assertEqual(pass_of(0, 40, TOUCH, 0, 7, lane(0), e), lane_told(0, [(2, 6400), (4, 0)]))
        self.assertEqual(pass_of(0, 40, TOUCH, 1, 7, lane(0), e), lane_told(0, [(2, 6400), (4, 3200), (5, 0)]))
        steps = [3, 7, 11, 15, 18, 22, 26, 30, 33, 37, 41, 45, 48, 52, 56, 60, 64]
        self.assertEqual(pass_of(0, 40, TOUCH, 16, 7, lane(0), e),
                         lane_told(0, [(2, 6400)] + [(4 + i, 100 * (64 - step)) for i, step in enumerate(steps)]))


class HowManyPoints(PassTestCase):
    def test_64_points_after_a_pass(self):
        l = lane(0, SIXTY_FOUR[:63])
        self.assertEqual(pass_of(635, END, WRITE, 0, 500, l, []), lane_told(0, SIXTY_FOUR[:63] + [(635, 500)]))
        self.assertEqual(pass_of(0, 5, WRITE, 0, 500, l, []), lane_told(500, [(5, 0)] + SIXTY_FOUR[:63]))
        l = lane(0, SIXTY_FOUR[:62])
        self.assertEqual(pass_of(621, 622, WRITE, 0, 500, l, []),
                         lane_told(0, SIXTY_FOUR[:62] + [(621, 500), (622, 62)]))

    def test_65_points_are_refused(self):
        self.assertEqual(pass_of(645, END, WRITE, 0, 500, FULL, []), [-3, 0, 0])
        self.assertEqual(pass_of(0, 5, WRITE, 0, 500, FULL, []), [-3, 0, 0])
        self.assertEqual(pass_of(621, 622, WRITE, 0, 500, lane(0, SIXTY_FOUR[:63]), []), [-3, 0, 0])
        self.assertEqual(pass_of(5, 6, WRITE, 0, 500, FULL, []), [-3, 0, 0])

    def test_a_full_lane_may_stay_full(self):
        self.assertEqual(pass_of(640, END, WRITE, 0, 500, FULL, []), lane_told(0, SIXTY_FOUR[:63] + [(640, 500)]))
        self.assertEqual(pass_of(10, 20, WRITE, 0, 500, FULL, []), lane_told(0, [(10, 500)] + SIXTY_FOUR[1:]))
        self.assertEqual(pass_of(5, 25, WRITE, 0, 500, FULL, []),
                         lane_told(0, [(5, 500), (25, 2)] + SIXTY_FOUR[2:]))

    def test_points_that_are_gone_are_not_counted(self):
        e = [number for tick in range(64) for number in touch(tick, tick + 100)]
        self.assertEqual(pass_of(0, END, WRITE, 0, 7, FULL, e),
                         lane_told(100, [(tick, tick + 100) for tick in range(1, 64)]))

    def test_64_events_make_64_points_and_the_end_one_more(self):
        e = [number for tick in range(1, 65) for number in touch(tick, tick + 100)]
        expected = [(tick, tick + 100) for tick in range(1, 65)]
        self.assertEqual(pass_of(1, END, WRITE, 0, 7, lane(7), e), lane_told(7, expected))
        self.assertEqual(pass_of(1, 16777215, WRITE, 0, 7, lane(7), e), [-3, 0, 0])
        self.assertEqual(pass_of(1, 16777215, WRITE, 0, 7, lane(164), e[3:]), lane_told(164, [(1, 7)] + expected[1:]))

    def test_ways_back_may_take_too_many(self):
        e = []
        for number in range(4):
            e += touch(20 * number + 1, 60000) + let_go(20 * number + 2)
        # Each takes the touch, 16 steps and old again: 72 points; 3 of them take 54.
        self.assertEqual(pass_of(0, 100, TOUCH, 16, 7, lane(0), e), [-3, 0, 0])
        self.assertEqual(judge(pass_of(0, 100, TOUCH, 16, 7, lane(0), e[:18])[2:-1])[4], 54)


class PassRefusals(unittest.TestCase):
    def refused(self, expected, a=5, b=9, mode=WRITE, back=2, l=STEP, e=()):
        self.assertEqual(pass_of(a, b, mode, back, 3, list(l), list(e)), expected, (a, b, mode, back, e))

    def right(self, **handed):
        self.refused(lane_told(1000, [(5, 3), (9, 1000), (10, 2000)]), **handed)

    def test_nothing_wrong(self):
        self.right()

    def test_more_than_1024_bytes(self):
        self.refused([-2, 0, 0], l=[0] * 1025)
        self.refused([-2, 0, 0], l=[255] * 3000)
        self.refused([-6, 0, 2, 4, 4], l=[0] * 1024)

    def test_more_than_192_numbers(self):
        self.right(e=touch(6, 3) * 64)
        for many in (193, 194, 195, 600):
            self.refused([-2, 0, 0], e=(touch(6, 3) * 200)[:many])

    def test_each_fault(self):
        for l, kind, place in FAULTS:
            self.refused([-6, 0, 2, kind, place], l=l)

    def test_a_above_b(self):
        self.refused([-1, 0, 0], a=6, b=5)
        self.refused([-1, 0, 0], a=1, b=0)
        self.refused([-1, 0, 0], a=GREATEST_NUMBER, b=9)

    def test_b_above_16777216(self):
        self.refused([-1, 0, 0], b=16777217)
        self.refused([-1, 0, 0], b=GREATEST_NUMBER)
        self.refused([-1, 0, 0], a=16777217, b=16777217)
        self.refused([-1, 0, 0], a=GREATEST_NUMBER, b=GREATEST_NUMBER)

    def test_mode_above_4(self):
        for mode in (5, 6, 255, 256, 2 ** 32, GREATEST_NUMBER):
            self.refused([-1, 0, 0], mode=mode)

    def test_back_above_16_in_each_mode(self):
        for mode in MODES:
            for back in (17, 64, 2 ** 32, GREATEST_NUMBER):
                self.refused([-1, 0, 0], mode=mode, back=back)
        self.right(back=16)

    def test_events_out_of_the_pass(self):
        for mode in MODES:
            for what in (0, 1):
                for tick in (0, 4, 9, 10, 16777216, GREATEST_NUMBER):
                    self.refused([-1, 0, 0], mode=mode, e=[tick, what, 3])
                    self.refused([-1, 0, 0], mode=mode, e=touch(5, 3) + [tick, what, 3])
        self.right(e=touch(5, 3))
        self.right(e=touch(8, 3))

    def test_an_event_of_a_pass_of_no_ticks(self):
        self.refused([-1, 0, 0], a=5, b=5, e=touch(5, 3))
        self.refused([-1, 0, 0], a=5, b=5, e=let_go(4))
        self.refused([-1, 0, 0], a=0, b=0, e=let_go(0))

    def test_events_before_the_one_before(self):
        for mode in MODES:
            self.refused([-1, 0, 0], mode=mode, e=touch(7, 3) + touch(6, 3))
            self.refused([-1, 0, 0], mode=mode, e=touch(7, 3) + let_go(6))
            self.refused([-1, 0, 0], mode=mode, e=let_go(6) + touch(8, 3) + let_go(7))
        self.right(e=touch(7, 3) + touch(7, 3) + touch(8, 3))

    def test_a_what_above_1(self):
        for mode in MODES:
            for what in (2, 3, 256, 2 ** 32, GREATEST_NUMBER):
                self.refused([-1, 0, 0], mode=mode, e=[6, what, 3])
                self.refused([-1, 0, 0], mode=mode, e=touch(6, 3) + [6, what, 3])

    def test_e_that_is_not_three_numbers_each(self):
        for many in (1, 2, 4, 5, 190, 191):
            self.refused([-1, 0, 0], e=(touch(6, 3) * 64)[:many])
        self.right(e=(touch(6, 3) * 64)[:189])

    def test_65_points(self):
        self.refused([-3, 0, 0], l=FULL)

    def test_the_order(self):
        self.refused([-2, 0, 0], a=7, b=6, mode=5, l=[], e=[0] * 193)
        self.refused([-2, 0, 0], a=7, b=6, l=[0] * 1025, e=[0])
        self.refused([-2, 0, 0], l=[0] * 1025, e=[0] * 193)
        self.refused([-2, 0, 0], l=FULL, e=[0] * 193)
        self.refused([-6, 0, 2, 1, 0], a=7, b=6, mode=5, back=17, l=[], e=[0] * 192)
        self.refused([-6, 0, 2, 4, 388], a=7, b=6, l=FULL + [0])
        self.refused([-1, 0, 0], l=FULL, e=[6, 2, 3])
        self.refused([-1, 0, 0], l=FULL, e=[6, 1])
        self.refused([-1, 0, 0], l=FULL, back=17)


class TickForTick(PassTestCase):
    def test_each_mode_over_each_lane(self):
        plays = ([], touch(3, 77), let_go(3), touch(0, 77) + let_go(2) + touch(6, 90000) + let_go(6),
                 touch(1, 5) + touch(3, 6) + let_go(9) + let_go(11) + touch(19, 7))
        sixteen = lane(0, [(tick, 5 + tick % 3) for tick in range(1, 17)])
        for l in (lane(9), STEP, SEVERAL, sixteen):
            for mode in MODES:
                for back in (0, 1, 5, 16):
                    for e in plays:
                        self.check((0, 25, mode, back, 30000, e), l, range(45))

    def test_many_tick_for_tick(self):
        source = random.Random(16)
        for base in (0, 1, 5000, 16777180):
            for _ in range(120):
                l = model.a_lane(source, base)
                ride = model.a_pass(source, base, 30)
                ticks = list(range(max(base - 2, 0), min(base + 65, END))) + [0, 1, 16777215]
                self.check(ride, l, ticks)

    def test_full_lanes_tick_for_tick(self):
        source = random.Random(17)
        points = [(2 * number, number) for number in range(1, 64)] + [(200, 7)]
        for _ in range(30):
            a, b, mode, back, gain, e = model.a_pass(source, 0, 120)
            if pass_of(a, b, mode, back, gain, lane(0, points), e)[0] != -3:
                self.check((a, b, mode, back, gain, e), lane(0, points), range(260))

    def test_at_all_other_ticks_too_the_lane_says_what_it_said(self):
        l = lane(5, [(7, 6), (3000, 7), (16000000, 8), (16777215, 9)])
        new = self.check((100, 2000, WRITE, 0, 44, []), l, [0, 6, 7, 99, 100, 1999, 2000, 2999, 3000, 15999999,
                                                            16000000, 16777214, 16777215, 16777216])
        self.assertEqual(row(16777200, 30, new), row(16777200, 30, l))


class PassAsTheDocumentSays(unittest.TestCase):
    def test_many(self):
        source = random.Random(18)
        told = {}
        for base in (0, 1, 5000, 16777180):
            for _ in range(200):
                a, b, mode, back, gain, e = model.a_pass(source, base)
                l = model.a_lane(source, source.choice([0, max(base - 60, 0)]), 90, source.choice([8, 64]))
                answer = pass_of(a, b, mode, back, gain, l, e)
                self.assertEqual(answer, model.pass_of(a, b, mode, back, gain, l, e), (a, b, mode, back, gain, l, e))
                told[min(answer[0], 0)] = told.get(min(answer[0], 0), 0) + 1
        self.assertEqual(sorted(told), [-3, 0])
        self.assertGreater(told[-3], 20)

    def test_many_of_which_a_number_is_spoilt(self):
        source = random.Random(19)
        told = {}
        for _ in range(1500):
            ride = list(model.a_pass(source))
            ride[source.randrange(4)] = source.choice([0, 4, 5, 16, 17, 40, 16777216, 16777217, GREATEST_NUMBER])
            a, b, mode, back, gain, e = ride
            if e and source.randint(0, 1):
                e[source.randrange(len(e))] = source.choice([0, 1, 2, 40, GREATEST_NUMBER])
            l = next(model.spoilt_lanes(source, 1))
            answer = pass_of(a, b, mode, back, gain, l, e)
            self.assertEqual(answer, model.pass_of(a, b, mode, back, gain, l, e), (a, b, mode, back, gain, l, e))
            told[min(answer[0], 0)] = told.get(min(answer[0], 0), 0) + 1
        for number in (-6, -1, 0):
            self.assertGreater(told[number], 50, told)

    def test_many_events(self):
        source = random.Random(20)
        for _ in range(40):
            e = []
            for tick in sorted(source.randrange(400) for _ in range(64)):
                e += [tick, source.randint(0, 1), source.choice([3, 4, 65535])]
            for mode in MODES:
                back = source.choice([0, 0, 0, 16])
                self.assertEqual(pass_of(0, 400, mode, back, 3, lane(4), e), model.pass_of(0, 400, mode, back, 3, lane(4), e))
