import random
import unittest

from lanedesk.lanes import heard
from tests import model
from tests.model import FAULTS, GREATEST_NUMBER, lane, let_go, touch

READ, TOUCH, LATCH, WRITE, TRIM = range(5)
MODES = (READ, TOUCH, LATCH, WRITE, TRIM)

# Ticks 0 to 9 say 1,000, those from 10 on 2,000.
STEP = lane(1000, [(10, 2000)])


def all_heard(a, b, mode, back, gain, l, e):
    """What's heard at each tick of a pass, where a number alone is told."""
    answers = [heard(a, b, mode, back, gain, tick, l, e) for tick in range(a, b)]
    for answer in answers:
        if answer[1:] != [0, 0]:
            raise AssertionError(answer)
    return [answer[0] for answer in answers]


class Read(unittest.TestCase):
    def test_old_whatever_the_fader_does(self):
        self.assertEqual(all_heard(7, 13, READ, 3, 5, STEP, []), [1000] * 3 + [2000] * 3)
        self.assertEqual(all_heard(7, 13, READ, 3, 5, STEP, touch(8, 9) + let_go(11)), [1000] * 3 + [2000] * 3)
        self.assertEqual(all_heard(7, 10, READ, 0, GREATEST_NUMBER, lane(3), touch(7, 9)), [3] * 3)


class Touch(unittest.TestCase):
    def test_old_if_it_is_never_touched(self):
        self.assertEqual(all_heard(7, 13, TOUCH, 3, 5, STEP, []), [1000] * 3 + [2000] * 3)

    def test_old_before_it_is_touched_then_the_faders_gain(self):
        self.assertEqual(all_heard(5, 13, TOUCH, 3, 7, STEP, touch(8, 9)), [1000] * 3 + [9] * 5)

    def test_touched_at_the_first_tick_and_at_the_last(self):
        self.assertEqual(all_heard(5, 8, TOUCH, 3, 7, STEP, touch(5, 9)), [9] * 3)
        self.assertEqual(all_heard(5, 8, TOUCH, 3, 7, STEP, touch(7, 9)), [1000, 1000, 9])

    def test_moved_while_it_is_held(self):
        self.assertEqual(all_heard(0, 6, TOUCH, 0, 7, STEP, touch(1, 9) + touch(3, 4)), [1000, 9, 9, 4, 4, 4])

    def test_no_way_back(self):
        self.assertEqual(all_heard(0, 6, TOUCH, 0, 7, STEP, touch(1, 9) + let_go(3)), [1000, 9, 9] + [1000] * 3)

    def test_a_way_back_of_1(self):
        # 32 steps on: half of the way.
        self.assertEqual(all_heard(0, 6, TOUCH, 1, 7, STEP, touch(1, 2000) + let_go(3)),
                         [1000, 2000, 2000, 1500, 1000, 1000])

    def test_a_way_back_of_2_takes_21_and_42_steps(self):
        # 5000 x 43 + 1000 x 21 is 236,000, / 64 is 3687.5; 5000 x 22 + 1000 x 42 is 152,000, / 64 is 2,375.
        self.assertEqual(all_heard(0, 6, TOUCH, 2, 7, STEP, touch(1, 5000) + let_go(2)),
                         [1000, 5000, 3688, 2375, 1000, 1000])

    def test_a_way_back_of_3(self):
        self.assertEqual(all_heard(0, 7, TOUCH, 3, 7, STEP, touch(0, 5000) + let_go(2)),
                         [5000, 5000, 4000, 3000, 2000, 1000, 1000])

    def test_a_way_back_of_16(self):
        steps = [3, 7, 11, 15, 18, 22, 26, 30, 33, 37, 41, 45, 48, 52, 56, 60]
        self.assertEqual(all_heard(20, 40, TOUCH, 16, 7, lane(0), touch(20, 6400) + let_go(22)),
                         [6400, 6400] + [100 * (64 - step) for step in steps] + [0, 0])

    def test_the_way_back_upwards(self):
        self.assertEqual(all_heard(10, 16, TOUCH, 3, 7, STEP, touch(10, 0) + let_go(11)),
                         [0, 500, 1000, 1500, 2000, 2000])

    def test_the_way_back_goes_to_what_the_lane_says_at_each_tick(self):
        self.assertEqual(all_heard(7, 14, TOUCH, 3, 7, STEP, touch(7, 5000) + let_go(8)),
                         [5000, 4000, 3000, 2750, 2000, 2000, 2000])

    def test_halves_of_the_way_back_go_to_the_even_one(self):
        for level, half in ((1, 0), (3, 2), (5, 2), (7, 4), (65535, 32768), (65533, 32766)):
            self.assertEqual(all_heard(0, 3, TOUCH, 1, 7, lane(0), touch(0, level) + let_go(1)), [level, half, 0])

    def test_a_new_touch_ends_the_way_back(self):
        e = touch(0, 5000) + let_go(1) + touch(3, 80) + let_go(5)
        self.assertEqual(all_heard(0, 10, TOUCH, 3, 7, lane(1000), e),
                         [5000, 4000, 3000, 80, 80, 310, 540, 770, 1000, 1000])

    def test_a_new_touch_at_the_tick_of_letting_go(self):
        e = touch(0, 5000) + let_go(2) + touch(2, 80)
        self.assertEqual(all_heard(0, 5, TOUCH, 3, 7, lane(1000), e), [5000, 5000, 80, 80, 80])

    def test_letting_go_without_a_holding(self):
        self.assertEqual(all_heard(0, 5, TOUCH, 3, 7, lane(1000), let_go(1)), [1000] * 5)
        self.assertEqual(all_heard(0, 5, TOUCH, 3, 7, lane(1000), let_go(1) + touch(3, 9)), [1000] * 3 + [9] * 2)
        self.assertEqual(all_heard(0, 4, TOUCH, 3, 7, lane(1000), let_go(1) + touch(1, 9)), [1000] + [9] * 3)

    def test_letting_go_twice_counts_once(self):
        e = touch(0, 5000) + let_go(1)
        for again in (let_go(1), let_go(2), let_go(3), let_go(5), let_go(2) + let_go(3)):
            self.assertEqual(all_heard(0, 8, TOUCH, 3, 7, lane(1000), e + again),
                             [5000, 4000, 3000, 2000, 1000, 1000, 1000, 1000], again)

    def test_touched_and_let_go_within_one_tick(self):
        e = touch(2, 5000) + let_go(2)
        self.assertEqual(all_heard(0, 7, TOUCH, 3, 7, lane(1000), e), [1000, 1000, 4000, 3000, 2000, 1000, 1000])
        self.assertEqual(all_heard(0, 4, TOUCH, 0, 7, lane(1000), e), [1000] * 4)

    def test_touched_and_let_go_within_one_tick_of_the_way_back(self):
        e = touch(0, 5000) + let_go(1) + touch(3, 80) + let_go(3)
        self.assertEqual(all_heard(0, 8, TOUCH, 3, 7, lane(1000), e), [5000, 4000, 3000, 310, 540, 770, 1000, 1000])

    def test_several_events_of_one_tick_count_in_their_order(self):
        e = touch(2, 5000) + let_go(2) + touch(2, 80) + touch(2, 90)
        self.assertEqual(all_heard(0, 4, TOUCH, 3, 7, lane(1000), e), [1000, 1000, 90, 90])
        e = touch(2, 90) + touch(2, 5000) + let_go(2) + let_go(2)
        self.assertEqual(all_heard(0, 4, TOUCH, 3, 7, lane(1000), e), [1000, 1000, 4000, 3000])

    def test_the_gain_of_letting_go_is_not_looked_at(self):
        for level in (0, 1, 65536, GREATEST_NUMBER):
            self.assertEqual(all_heard(0, 6, TOUCH, 3, 7, lane(1000), touch(0, 5000) + let_go(1, level)),
                             [5000, 4000, 3000, 2000, 1000, 1000])

    def test_gains_above_65535(self):
        for level in (65535, 65536, 2 ** 32, GREATEST_NUMBER):
            self.assertEqual(all_heard(0, 4, TOUCH, 1, 7, lane(1), touch(0, level) + let_go(2)),
                             [65535, 65535, 32768, 1])


class Latch(unittest.TestCase):
    def test_old_if_it_is_never_touched(self):
        self.assertEqual(all_heard(7, 13, LATCH, 3, 5, STEP, []), [1000] * 3 + [2000] * 3)
        self.assertEqual(all_heard(7, 13, LATCH, 3, 5, STEP, let_go(8)), [1000] * 3 + [2000] * 3)

    def test_the_faders_gain_from_the_first_touch_on(self):
        self.assertEqual(all_heard(7, 13, LATCH, 3, 5, STEP, touch(9, 80)), [1000] * 2 + [80] * 4)
        self.assertEqual(all_heard(7, 13, LATCH, 3, 5, STEP, touch(9, 80) + let_go(10)), [1000] * 2 + [80] * 4)
        self.assertEqual(all_heard(7, 13, LATCH, 3, 5, STEP, touch(9, 80) + let_go(9)), [1000] * 2 + [80] * 4)
        self.assertEqual(all_heard(7, 9, LATCH, 3, 5, STEP, touch(7, 80)), [80] * 2)
        self.assertEqual(all_heard(7, 9, LATCH, 3, 5, STEP, touch(8, 80)), [1000, 80])

    def test_later_touches_move_it(self):
        e = touch(8, 80) + let_go(9) + touch(10, 90) + touch(12, 70000)
        self.assertEqual(all_heard(7, 14, LATCH, 3, 5, STEP, e), [1000, 80, 80, 90, 90, 65535, 65535])


class Write(unittest.TestCase):
    def test_the_faders_gain_as_it_began(self):
        self.assertEqual(all_heard(7, 13, WRITE, 3, 5, STEP, []), [5] * 6)
        self.assertEqual(all_heard(7, 9, WRITE, 3, 0, STEP, let_go(7)), [0] * 2)

    def test_from_each_event_on_its_gain(self):
        e = touch(8, 80) + let_go(10) + touch(11, 90)
        self.assertEqual(all_heard(7, 13, WRITE, 3, 5, STEP, e), [5, 80, 80, 80, 90, 90])

    def test_several_events_of_one_tick(self):
        e = touch(8, 80) + touch(8, 81) + let_go(8) + touch(8, 82) + let_go(8, 83)
        self.assertEqual(all_heard(7, 10, WRITE, 3, 5, STEP, e), [5, 82, 82])

    def test_gains_above_65535(self):
        for level in (65535, 65536, GREATEST_NUMBER):
            self.assertEqual(all_heard(0, 2, WRITE, 0, level, STEP, touch(1, 3)), [65535, 3])
            self.assertEqual(all_heard(0, 2, WRITE, 0, 3, STEP, touch(1, level)), [3, 65535])


class Trim(unittest.TestCase):
    def test_old_by_the_faders_gain_as_it_began(self):
        self.assertEqual(all_heard(8, 12, TRIM, 3, 8192, STEP, []), [500, 500, 1000, 1000])
        self.assertEqual(all_heard(8, 12, TRIM, 3, 0, STEP, []), [0] * 4)
        self.assertEqual(all_heard(8, 12, TRIM, 3, 32768, STEP, let_go(9)), [2000, 2000, 4000, 4000])

    def test_from_each_event_on_by_its_gain(self):
        e = touch(9, 8192) + let_go(10) + touch(11, 16384)
        self.assertEqual(all_heard(8, 13, TRIM, 3, 32768, STEP, e), [2000, 500, 1000, 2000, 2000])

    def test_by_16384_it_is_old(self):
        for old in (0, 1, 16384, 65534, 65535):
            self.assertEqual(all_heard(0, 2, TRIM, 3, 16384, lane(old), []), [old] * 2)

    def test_halves_go_to_the_even_one(self):
        for old, half in ((1, 0), (3, 2), (5, 2), (7, 4), (65533, 32766), (65535, 32768)):
            self.assertEqual(all_heard(0, 1, TRIM, 0, 8192, lane(old), []), [half], old)

    def test_just_beside_a_half(self):
        self.assertEqual(all_heard(0, 1, TRIM, 0, 8191, lane(1), []), [0])
        self.assertEqual(all_heard(0, 1, TRIM, 0, 8193, lane(1), []), [1])
        self.assertEqual(all_heard(0, 1, TRIM, 0, 24575, lane(1), []), [1])
        self.assertEqual(all_heard(0, 1, TRIM, 0, 24577, lane(1), []), [2])

    def test_what_is_more_than_65535_is_65535(self):
        self.assertEqual(all_heard(0, 1, TRIM, 0, 32768, lane(32767), []), [65534])
        self.assertEqual(all_heard(0, 1, TRIM, 0, 32768, lane(32768), []), [65535])
        self.assertEqual(all_heard(0, 1, TRIM, 0, 16385, lane(65535), []), [65535])
        self.assertEqual(all_heard(0, 1, TRIM, 0, 65535, lane(65535), []), [65535])

    def test_gains_above_65535_count_as_that(self):
        for level in (65535, 65536, 2 ** 32, GREATEST_NUMBER):
            self.assertEqual(all_heard(0, 2, TRIM, 0, level, lane(3), touch(1, 0)), [12, 0])
            # 10,000 x 65,535 / 16,384 is 39,999.4; by a gain that wasn't held it would be 40,000 and more.
            self.assertEqual(all_heard(0, 2, TRIM, 0, 0, lane(10000), touch(1, level)), [0, 39999])


class TicksOfThePass(unittest.TestCase):
    def test_the_one_before_and_the_one_behind_are_refused(self):
        for mode in MODES:
            self.assertEqual(heard(5, 9, mode, 2, 3, 4, STEP, []), [-1, 0, 0])
            self.assertEqual(heard(5, 9, mode, 2, 3, 9, STEP, []), [-1, 0, 0])
            self.assertEqual(heard(5, 9, mode, 2, 3, 5, STEP, [])[1:], [0, 0])
            self.assertEqual(heard(5, 9, mode, 2, 3, 8, STEP, [])[1:], [0, 0])

    def test_far_ticks_are_refused(self):
        for tick in (0, 16777215, 16777216, 2 ** 32 + 6, GREATEST_NUMBER):
            self.assertEqual(heard(5, 9, WRITE, 2, 3, tick, STEP, []), [-1, 0, 0], tick)

    def test_a_pass_of_no_ticks_has_none(self):
        for tick in (0, 6, 7, 8, GREATEST_NUMBER):
            self.assertEqual(heard(7, 7, WRITE, 2, 3, tick, STEP, []), [-1, 0, 0], tick)
        self.assertEqual(heard(0, 0, WRITE, 2, 3, 0, STEP, []), [-1, 0, 0])
        self.assertEqual(heard(16777216, 16777216, WRITE, 2, 3, 16777216, STEP, []), [-1, 0, 0])

    def test_a_pass_over_all_ticks(self):
        for tick in (0, 1, 9, 10, 16777214, 16777215):
            self.assertEqual(heard(0, 16777216, WRITE, 2, 3, tick, STEP, []), [3, 0, 0], tick)
        self.assertEqual(heard(0, 16777216, WRITE, 2, 3, 16777216, STEP, []), [-1, 0, 0])

    def test_the_last_ticks(self):
        e = touch(16777213, 5000) + let_go(16777214)
        self.assertEqual(all_heard(16777212, 16777216, TOUCH, 3, 7, lane(1000), e), [1000, 5000, 4000, 3000])


class HeardRefusals(unittest.TestCase):
    def refused(self, expected, a=5, b=9, mode=WRITE, back=2, tick=6, l=STEP, e=()):
        self.assertEqual(heard(a, b, mode, back, 3, tick, list(l), list(e)), expected, (a, b, mode, back, tick, e))

    def test_more_than_1024_bytes(self):
        self.refused([-2, 0, 0], l=[0] * 1025)
        self.refused([-2, 0, 0], l=[255] * 3000)
        self.refused([-6, 0, 2, 4, 4], l=[0] * 1024)

    def test_more_than_192_numbers(self):
        self.refused([3, 0, 0], e=touch(6, 3) * 64)
        for many in (193, 194, 195, 600):
            self.refused([-2, 0, 0], e=(touch(6, 3) * 200)[:many])

    def test_each_fault(self):
        for l, kind, place in FAULTS:
            self.refused([-6, 0, 2, kind, place], l=l)

    def test_what_is_no_pass(self):
        self.refused([-1, 0, 0], a=7, b=6)
        self.refused([-1, 0, 0], b=16777217)
        self.refused([-1, 0, 0], mode=5)
        self.refused([-1, 0, 0], back=17)
        self.refused([-1, 0, 0], e=touch(4, 3))
        self.refused([-1, 0, 0], e=touch(9, 3))
        self.refused([-1, 0, 0], e=touch(7, 3) + touch(6, 3))
        self.refused([-1, 0, 0], e=[6, 2, 3])
        self.refused([-1, 0, 0], e=[6, 1])

    def test_an_event_behind_the_tick_is_looked_at_too(self):
        self.refused([-1, 0, 0], tick=5, e=touch(6, 3) + [8, 2, 3])
        self.refused([-1, 0, 0], tick=5, e=touch(8, 3) + touch(7, 3))

    def test_the_order(self):
        self.refused([-2, 0, 0], a=7, b=6, tick=99, l=[], e=[0] * 193)
        self.refused([-2, 0, 0], a=7, b=6, tick=99, l=[0] * 1025, e=[0])
        self.refused([-2, 0, 0], l=[0] * 1025, e=[0] * 193)
        self.refused([-6, 0, 2, 1, 0], a=7, b=6, mode=5, back=17, tick=99, l=[], e=[0] * 192)
        self.refused([-6, 0, 2, 1, 0], tick=99, l=[])


class HeardAsTheDocumentSays(unittest.TestCase):
    def test_many(self):
        source = random.Random(14)
        for base in (0, 1, 5000, 16777190):
            for _ in range(250):
                l = model.a_lane(source, base)
                a, b, mode, back, gain, e = model.a_pass(source, base)
                for tick in list(range(a, b)) + [max(a - 1, 0), b]:
                    self.assertEqual(heard(a, b, mode, back, gain, tick, l, e),
                                     model.heard(a, b, mode, back, gain, tick, l, e), (a, b, mode, back, gain, tick, l, e))

    def test_each_length_of_the_way_back(self):
        source = random.Random(15)
        for back in range(17):
            for _ in range(6):
                l = model.a_lane(source, 0, 30)
                e = touch(source.randint(0, 5), source.randint(0, 65535)) + let_go(source.randint(5, 9))
                expected = [model.heard(0, 30, TOUCH, back, 0, tick, l, e)[0] for tick in range(30)]
                self.assertEqual(all_heard(0, 30, TOUCH, back, 0, l, e), expected, (back, l, e))
