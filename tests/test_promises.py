"""The document's sentences of what always holds: of samples, the fader, lanes, passes and all calls."""

import contextlib
import io
import itertools
import random
import unittest

from lanedesk.lanes import at, cut, gain, glide, heard, judge, mix, open_of, pan, pass_of, paste, peak, position, row
from lanedesk.lanes import times
from tests import model
from tests.model import FULL, GREATEST, GREATEST_NUMBER, GREATEST_SIGNED, LEAST, LEAST_SIGNED, SAMPLES, SIXTY_FOUR
from tests.model import FixedList, bytes_told, lane, lane_told

WITHIN = [one for one in SAMPLES if LEAST <= one <= GREATEST]

LANE = lane(700, [(5, 9), (8, 65535), (20, 4000)])
EVENTS = [4, 1, 65536, 6, 0, 1, 9, 1, 300, 9, 0, 0]

# Of each call an answer, one with clips, and each refusal; values are made anew for each use.
CALLS = [
    (times, lambda: (8192, FixedList([3, -3, 5]))),
    (times, lambda: (GREATEST_NUMBER, FixedList([LEAST_SIGNED, 0, GREATEST_SIGNED]))),
    (times, lambda: (8192, FixedList())),
    (times, lambda: (8192, FixedList([1] * 257))),
    (glide, lambda: (3, 0, 65535, FixedList([3, -3, 5]))),
    (glide, lambda: (3, GREATEST_NUMBER, 65535, FixedList([LEAST_SIGNED, 0, GREATEST_SIGNED]))),
    (glide, lambda: (64, 1, 2, FixedList())),
    (glide, lambda: (0, 1, 2, FixedList([1] * 257))),
    (glide, lambda: (64, 1, 2, FixedList([1, 1]))),
    (mix, lambda: (2, FixedList([3, -3, 5, 7]), FixedList([8192, 3]))),
    (mix, lambda: (2, FixedList([LEAST_SIGNED, 0, GREATEST_SIGNED, 7]), FixedList([GREATEST_NUMBER, 3]))),
    (mix, lambda: (0, FixedList(), FixedList([8192]))),
    (mix, lambda: (257, FixedList([1]), FixedList([8192]))),
    (mix, lambda: (1, FixedList([1]), FixedList())),
    (mix, lambda: (1, FixedList([1, 1]), FixedList([8192]))),
    (peak, lambda: (FixedList([3, -5, 5]),)),
    (peak, lambda: (FixedList([LEAST_SIGNED, 0, GREATEST_SIGNED]),)),
    (peak, lambda: (FixedList(),)),
    (peak, lambda: (FixedList([1] * 257),)),
    (gain, lambda: (129,)),
    (gain, lambda: (1023,)),
    (gain, lambda: (1024,)),
    (position, lambda: (0,)),
    (position, lambda: (40000,)),
    (position, lambda: (GREATEST_NUMBER,)),
    (pan, lambda: (-3,)),
    (pan, lambda: (65,)),
    (judge, lambda: (FixedList(lane(700)),)),
    (judge, lambda: (FixedList(lane(700, [(5, 9), (8, 65535)])),)),
    (judge, lambda: (FixedList(lane(700, [(5, 9), (8, 9)])),)),
    (judge, lambda: (FixedList([0] * 1025),)),
    (at, lambda: (7, FixedList(lane(700)))),
    (at, lambda: (7, FixedList(lane(700, [(5, 9), (8, 65535)])))),
    (at, lambda: (GREATEST_NUMBER, FixedList(lane(700, [(5, 9), (8, 65535)])))),
    (at, lambda: (7, FixedList(lane(700, [(5, 9), (8, 9)])))),
    (at, lambda: (7, FixedList([0] * 1025))),
    (row, lambda: (3, 7, FixedList(LANE))),
    (row, lambda: (GREATEST_NUMBER, 0, FixedList(LANE))),
    (row, lambda: (3, 257, FixedList(LANE))),
    (row, lambda: (3, 7, FixedList(LANE[:-1]))),
] + [
    (pass_of, lambda mode=mode: (2, 30, mode, 5, 8192, FixedList(LANE), FixedList(EVENTS))) for mode in range(5)
] + [
    (pass_of, lambda: (2, 2, 3, 5, 8192, FixedList(LANE), FixedList())),
    (pass_of, lambda: (2, 30, 3, 5, 8192, FixedList(LANE), FixedList([0] * 193))),
    (pass_of, lambda: (2, 30, 3, 5, 8192, FixedList(LANE[:-1]), FixedList(EVENTS))),
    (pass_of, lambda: (2, 5, 3, 5, 8192, FixedList(LANE), FixedList(EVENTS))),
    (pass_of, lambda: (2, 30, 3, 5, 8192, FixedList(FULL), FixedList())),
] + [
    (heard, lambda mode=mode: (2, 30, mode, 5, 8192, 11, FixedList(LANE), FixedList(EVENTS))) for mode in range(5)
] + [
    (heard, lambda: (2, 30, 3, 5, 8192, 11, FixedList([0] * 1025), FixedList(EVENTS))),
    (heard, lambda: (2, 30, 3, 5, 8192, 11, FixedList(LANE[:-1]), FixedList(EVENTS))),
    (heard, lambda: (2, 30, 3, 5, 8192, 30, FixedList(LANE), FixedList(EVENTS))),
    (paste, lambda: (2, 9, 6, FixedList(LANE), FixedList(FULL))),
    (paste, lambda: (2, 0, 6, FixedList(LANE), FixedList(FULL))),
    (paste, lambda: (2, 9, 6, FixedList(LANE), FixedList([0] * 1025))),
    (paste, lambda: (2, 9, 6, FixedList(LANE[:-1]), FixedList(LANE))),
    (paste, lambda: (2, 9, 6, FixedList(LANE), FixedList(LANE[:-1]))),
    (paste, lambda: (2, GREATEST_NUMBER, 6, FixedList(LANE), FixedList(FULL))),
    (paste, lambda: (2, 1, 6, FixedList(FULL), FixedList(LANE))),
] + [
    (call, lambda start=start, many=many, l=l: (start, many, FixedList(l)))
    for call in (cut, open_of)
    for start, many, l in ((4, 3, LANE), (0, 0, LANE), (0, 16777216, FULL), (4, 3, [0] * 1025), (4, 3, LANE[:-1]),
                           (GREATEST_NUMBER, 3, LANE))
]

TELL_LANES = (pass_of, paste, cut, open_of)


def mixed(column, gains):
    """The one sample that a column of rows' samples is mixed to."""
    return mix(1, list(column), list(gains))[3]


class SamplesAndGains(unittest.TestCase):
    def test_by_16384_a_sample_is_itself(self):
        self.assertEqual(times(16384, WITHIN), [len(WITHIN), 0, len(WITHIN) + 2] + WITHIN + [0, len(WITHIN)])
        self.assertEqual(glide(0, 16384, 16384, WITHIN), times(16384, WITHIN))
        self.assertEqual(mix(len(WITHIN), WITHIN, [16384]), times(16384, WITHIN))

    def test_by_0_a_sample_is_0(self):
        silence = [len(SAMPLES), 0, len(SAMPLES) + 2] + [0] * len(SAMPLES) + [0, len(SAMPLES)]
        self.assertEqual(times(0, SAMPLES), silence)
        self.assertEqual(glide(0, 0, 0, SAMPLES), silence)
        self.assertEqual(mix(len(SAMPLES), SAMPLES, [0]), silence)

    def test_rows_in_any_order_mix_to_the_same(self):
        rows = [([GREATEST, -7, 5], 16384), ([GREATEST, 1, -5], 8192), ([LEAST, 3, 2], 24577), ([LEAST, 9, 1], 65535)]
        answers = []
        for order in itertools.permutations(rows):
            x = [sample for row, level in order for sample in row]
            answers.append(mix(3, x, [level for row, level in order]))
        for one in answers:
            self.assertEqual(one, answers[0])

    def test_many_rows_in_any_order_mix_to_the_same(self):
        source = random.Random(4)
        for _ in range(100):
            rows = [([source.randint(LEAST - 9, GREATEST + 9) for _ in range(5)], source.randint(0, 65540))
                    for _ in range(source.randint(1, 16))]
            answers = []
            for order in (rows, rows[::-1], source.sample(rows, len(rows))):
                answers.append(mix(5, [one for row, level in order for one in row], [level for row, level in order]))
            self.assertEqual(answers[1], answers[0])
            self.assertEqual(answers[2], answers[0])

    def test_greater_samples_of_rows_never_make_less(self):
        for gains in ((8192, 8192), (16384, 1), (65535, 65535), (0, 16384)):
            for other in (LEAST, -3, 0, 3, GREATEST):
                heard = [mixed((sample, other), gains) for sample in SAMPLES]
                self.assertEqual(heard, sorted(heard))
                heard = [mixed((other, sample), gains) for sample in SAMPLES]
                self.assertEqual(heard, sorted(heard))

    def test_greater_samples_of_many_rows_never_make_less(self):
        source = random.Random(5)
        for _ in range(200):
            gains = [source.randint(0, 65535) for _ in range(source.randint(1, 16))]
            reach = source.choice([4, 1000, GREATEST + 2])
            lower = [source.randint(-reach, reach) for _ in gains]
            upper = [one + source.randint(0, 3) for one in lower]
            self.assertLessEqual(mixed(lower, gains), mixed(upper, gains))


class Pans(unittest.TestCase):
    def test_a_sample_mixed_with_itself_by_a_pans_two_shares_is_itself(self):
        for p in range(-64, 65):
            shares = pan(p)[3:]
            self.assertEqual(len(shares), 2)
            self.assertEqual(mix(len(WITHIN), WITHIN + WITHIN, shares), times(16384, WITHIN), p)


class Fader(unittest.TestCase):
    def test_a_positions_gains_position_is_it_or_a_later_one_with_the_same_gain(self):
        for p in range(1024):
            back = position(gain(p)[0])[0]
            self.assertGreaterEqual(back, p)
            self.assertEqual(gain(back), gain(p), p)


class Lanes(unittest.TestCase):
    def said(self, ticks, l):
        return tuple(at(tick, l)[0] for tick in ticks)

    def test_what_is_said_at_all_ticks_tells_one_lane(self):
        # All rows of at most four points at ticks 1 to 4, of three gains; those that are lanes say each row once.
        ticks = range(1, 5)
        rows = {}
        for many in range(5):
            for chosen in itertools.combinations(ticks, many):
                for first, *levels in itertools.product(range(3), repeat=many + 1):
                    l = lane(first, list(zip(chosen, levels)))
                    if judge(l)[0] == 0:
                        rows.setdefault(self.said(range(5), l), []).append(l)
        self.assertEqual(sorted(rows), sorted(itertools.product(range(3), repeat=5)))
        for same in rows.values():
            self.assertEqual(len(same), 1, same)

    def test_the_bytes_come_back_from_what_is_said_at_all_ticks(self):
        source = random.Random(11)
        for _ in range(2000):
            points = [(source.randint(0, 6), source.randint(0, 2)) for _ in range(source.randint(0, 4))]
            l = lane(source.randint(0, 2), points) + [0] * source.choice([0, 0, 0, 1])
            if judge(l)[0] == 0:
                heard = self.said(range(8), l)
                turns = [(tick, heard[tick]) for tick in range(1, 8) if heard[tick] != heard[tick - 1]]
                self.assertEqual(lane(heard[0], turns), l)
                self.assertEqual(judge(l)[3:], [heard[0], len(turns), ([0] + [tick for tick, level in turns])[-1]])


class Passes(unittest.TestCase):
    def rides(self, seed, many=300):
        """Lanes, and passes with events over them."""
        source = random.Random(seed)
        for base in (0, 1, 700, 16777180):
            for _ in range(many // 4):
                yield model.a_lane(source, base, 36, source.choice([8, 30])), model.a_pass(source, base)
        for a, b in ((0, 16777216), (1, 16777216), (0, 16777215), (0, 641), (5, 15)):
            yield FULL, (a, b, source.randint(0, 4), 7, source.randint(0, 65535), [])

    def test_a_read_pass_leaves_it(self):
        for l, (a, b, mode, back, level, e) in self.rides(21):
            self.assertEqual(pass_of(a, b, 0, back, level, l, e), bytes_told(l))

    def test_a_pass_of_no_ticks_leaves_it(self):
        for l, (a, b, mode, back, level, e) in self.rides(22):
            for every in range(5):
                self.assertEqual(pass_of(a, a, every, back, level, l, []), bytes_told(l))

    def test_a_trim_by_16384_leaves_it(self):
        for l, (a, b, mode, back, level, e) in self.rides(23):
            self.assertEqual(pass_of(a, b, 4, back, 16384, l, []), bytes_told(l))
            by = [16384 if place % 3 == 2 else number for place, number in enumerate(e)]
            self.assertEqual(pass_of(a, b, 4, back, 16384, l, by), bytes_told(l))

    def test_a_write_pass_twice_is_one(self):
        twice = 0
        for l, (a, b, mode, back, level, e) in self.rides(24):
            once = pass_of(a, b, 3, back, level, l, e)
            if once[0] != -3:
                self.assertEqual(pass_of(a, b, 3, back, level, once[2:-1], e), once)
                twice += 1
        self.assertGreater(twice, 250)

    def test_what_a_lane_says_after_a_pass_is_what_was_heard_in_it_and_outside_what_it_said(self):
        for l, (a, b, mode, back, level, e) in self.rides(25, 120):
            new = pass_of(a, b, mode, back, level, l, e)
            if new[0] != -3 and b - a < 100:
                for tick in range(max(a - 3, 0), min(b + 20, 16777216)):
                    expected = heard(a, b, mode, back, level, tick, l, e) if a <= tick < b else at(tick, l)
                    self.assertEqual(at(tick, new[2:-1]), expected)

    def test_what_is_said_at_all_ticks_tells_the_bytes_after_a_pass(self):
        # Passes that say the same at all ticks answer the same bytes, by whatever way they came to it.
        l = lane(9, [(6, 4)])
        written = pass_of(3, 8, 3, 0, 7, l, [])
        for ride in ((3, 8, 2, 0, 5, [3, 1, 7]), (3, 8, 1, 0, 5, [3, 1, 7]), (0, 8, 2, 0, 5, [3, 1, 7, 4, 0, 0]),
                     (0, 9, 1, 0, 5, [3, 1, 7, 8, 0, 0]), (2, 8, 3, 0, 9, [3, 1, 7]), (3, 9, 3, 0, 7, [8, 1, 4])):
            a, b, mode, back, level, e = ride
            self.assertEqual(pass_of(a, b, mode, back, level, l, e), written, ride)


class EditedLanes(unittest.TestCase):
    def lanes(self, seed, many=400):
        """Lanes, a tick near their points, and how many ticks from there on."""
        source = random.Random(seed)
        for base in (0, 1, 700, 16777150):
            for _ in range(many // 4):
                start = source.choice([0, base, source.randint(base, min(base + 50, 16777216))])
                reach = source.choice([0, 1, 5, 60, 16777216])
                yield model.a_lane(source, base, 40, source.choice([8, 30])), start, min(reach, 16777216 - start)
        for start, reach in ((0, 3), (10, 10), (640, 5), (5, 16776000), (5, 16777211), (16777216, 0)):
            yield FULL, start, reach

    def test_what_is_cut_out_where_so_much_was_opened_is_as_it_was_but_for_what_went_beyond(self):
        whole = 0
        for l, start, many in self.lanes(35):
            first, points = model.read_lane(l)
            left = [point for point in points if point[0] <= start or point[0] + many <= 16777215]
            opened = open_of(start, many, l)[2:-1]
            self.assertEqual(cut(start, many, opened), lane_told(first, left), (l, start, many))
            whole += left == points and many > 0
        self.assertGreater(whole, 100)

    def test_that_sentence_in_one_example(self):
        l = lane(3, [(5, 4), (9, 5), (16777210, 6)])
        self.assertEqual(cut(7, 5, open_of(7, 5, l)[2:-1]), bytes_told(l))
        self.assertEqual(cut(7, 6, open_of(7, 6, l)[2:-1]), lane_told(3, [(5, 4), (9, 5)]))

    def test_what_is_said_at_all_ticks_tells_the_bytes_that_are_told(self):
        # Each new lane is told in the bytes that its first gain and its turns take, whatever call made it.
        for l, start, many in self.lanes(36, 200):
            for answer in (cut(start, many, l), open_of(start, many, l), paste(0, many, start, l, LANE),
                           paste(start, many, 0, LANE, l), pass_of(start, start + many, 3, 0, 700, l, [])):
                if answer[0] != -3:
                    new = answer[2:-1]
                    turns = self.said_near(l, start, many, new)
                    points = [turns[i] for i in range(1, len(turns)) if turns[i][1] != turns[i - 1][1]]
                    self.assertEqual(lane(turns[0][1], points), new, (l, start, many))

    def said_near(self, l, start, many, new):
        """What a new lane says at tick 0 and around all ticks at which it might turn."""
        ticks = {0}
        for lane_bytes in (l, LANE, new):
            for tick, level in model.read_lane(lane_bytes)[1]:
                for mark in (tick, tick + start, tick - start, tick + many, tick - many, start, start + many):
                    ticks |= {one for one in (mark - 1, mark, mark + 1) if 0 <= one < 16777216}
        return [(tick, at(tick, new)[0]) for tick in sorted(ticks)]

    def test_nothing_pasted_cut_or_opened_leaves_it(self):
        for l, start, many in self.lanes(37):
            self.assertEqual(paste(many, 0, start, l, LANE), bytes_told(l))
            self.assertEqual(cut(start, 0, l), bytes_told(l))
            self.assertEqual(open_of(start, 0, l), bytes_told(l))

    def test_pasted_over_all_ticks_it_is_the_other_lane(self):
        for l, start, many in self.lanes(38):
            self.assertEqual(paste(0, 16777216, 0, LANE, l), bytes_told(l))
            self.assertEqual(paste(0, 16777216, 0, FULL, l), bytes_told(l))

    def test_pasted_onto_its_own_place_it_is_as_it_was(self):
        for l, start, many in self.lanes(39):
            self.assertEqual(paste(start, many, start, l, l), bytes_told(l))

    def test_a_full_lane_stays_full(self):
        moved = lane_told(0, [(tick + 7, level) for tick, level in SIXTY_FOUR])
        self.assertEqual(open_of(0, 7, FULL), moved)
        self.assertEqual(cut(0, 7, moved[2:-1]), bytes_told(FULL))

    def test_a_new_lane_can_be_handed_over_again(self):
        l = lane(1000, [(5, 2000), (8, 3000)])
        l = pass_of(3, 9, 4, 0, 8192, l, [])[2:-1]
        self.assertEqual(l, lane(1000, [(3, 500), (5, 1000), (8, 1500), (9, 3000)]))
        l = open_of(5, 10, l)[2:-1]
        self.assertEqual(l, lane(1000, [(3, 500), (5, 1000), (18, 1500), (19, 3000)]))
        l = paste(3, 2, 10, l, l)[2:-1]
        self.assertEqual(l, lane(1000, [(3, 500), (5, 1000), (10, 500), (12, 1000), (18, 1500), (19, 3000)]))
        l = cut(4, 7, l)[2:-1]
        self.assertEqual(l, lane(1000, [(3, 500), (5, 1000), (11, 1500), (12, 3000)]))
        self.assertEqual(row(2, 12, l)[3:], [1000, 500, 500] + [1000] * 6 + [1500, 3000, 3000])


class AllCalls(unittest.TestCase):
    def test_what_was_handed_in_is_not_changed_at_any_time(self):
        for call, handed in CALLS:
            values = handed()
            call(*values)
            self.assertEqual(values, handed())

    def test_a_second_call_answers_as_the_first(self):
        first = [call(*handed()) for call, handed in CALLS]
        second = [call(*handed()) for call, handed in reversed(CALLS)]
        self.assertEqual(second[::-1], first)

    def test_an_answer_is_the_callers_own(self):
        for call, handed in CALLS:
            values = handed()
            answer = call(*values)
            before = list(answer)
            answer.append(1)
            answer[0] = 99
            self.assertEqual(values, handed())
            self.assertEqual(call(*values), before)

    def test_an_answer_is_one_list_of_whole_numbers(self):
        for call, handed in CALLS:
            answer = call(*handed())
            self.assertIs(type(answer), list)
            for number in answer:
                self.assertIs(type(number), int)
            numbers_place = 2 + answer[1]
            self.assertEqual(answer[numbers_place], len(answer) - numbers_place - 1)
            self.assertEqual([one for one in answer[2:numbers_place] if not 0 <= one <= 255], [])
            if answer[1] > 0:
                self.assertEqual(answer[0], answer[1])

    def test_only_a_lane_is_told_in_bytes(self):
        for call, handed in CALLS:
            answer = call(*handed())
            self.assertEqual(answer[1] > 0, call in TELL_LANES and answer[0] >= 0, call)
            if answer[1] > 0:
                self.assertEqual(judge(answer[2:2 + answer[1]])[0], 0)

    def test_nothing_is_printed(self):
        out, err = io.StringIO(), io.StringIO()
        with contextlib.redirect_stdout(out), contextlib.redirect_stderr(err):
            for call, handed in CALLS:
                call(*handed())
        self.assertEqual((out.getvalue(), err.getvalue()), ("", ""))
