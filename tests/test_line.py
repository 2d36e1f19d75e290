"""The interface: how calls are handed in and answered, what a line has at its beginning, open."""

import builtins
import contextlib
import io
import unittest
from unittest import mock

from stripcards.cards import answers, tell_counts
from stripcards.line import Line
from helper import (
    COUNTS, FOUND, LEARN, LEVELS, NEXT, NOISES, OPEN, REST, SAMPLES,
    ask, ask_open, card, feed, flat, frame, full_frame, pack, told,
)

EXPECTED = [500] * 128
BUSY = [
    OPEN,
    card(3, 90, 20, 5, [1, 2, 127], [4000] * 128, [7] * 128),
    feed([1, 2, 3] + full_frame(3, 9, range(128)) + frame(3, 3, 9) + frame(1, 3, 4, (), 1) + [0xA5, 0x96, 1]),
    NEXT, SAMPLES, REST, FOUND, LEARN, told(3), COUNTS,
    pack(3, 77, -1, range(128)),
    pack(3, 77, 3, EXPECTED),
    told(8),
]


class Form(unittest.TestCase):
    def test_each_answer_stands_behind_how_many_numbers_it_has(self):
        self.assertEqual(answers([0, 1, 1]), [1, 0])
        self.assertEqual(answers([0, 1, 1, 0, 2, 3, 0, 0, 1, 10, 0, 1, 4]), [1, 0, 1, 0, 7, 0, 0, 0, 0, 0, 0, 0, 1, -3])

    def test_how_many_numbers_each_call_answers(self):
        sizes = [len(answer) for answer in ask(*BUSY)]
        self.assertEqual(sizes[:7], [1, 1, 1, 5, 129, 133, 1 + 4 * ask(*BUSY)[6][0]])
        self.assertEqual(sizes[7:], [1, 257, 7, 1 + ask(*BUSY)[10][0], 1, 1])

    def test_a_plain_list_of_plain_ints(self):
        given = answers(flat(BUSY))
        self.assertIs(type(given), list)
        self.assertEqual({type(number) for number in given}, {int})

    def test_what_is_handed_in_stays_the_same(self):
        calls = flat(BUSY)
        before = list(calls)
        answers(calls)
        self.assertEqual(calls, before)

    def test_what_is_handed_in_is_never_changed_for_a_while(self):
        class Guarded(list):
            def refuse(self, *numbers):
                raise TypeError("changed")
            __setitem__ = __delitem__ = __iadd__ = __imul__ = refuse
            append = extend = insert = pop = remove = clear = sort = reverse = refuse

        self.assertEqual(answers(Guarded(flat(BUSY))), answers(flat(BUSY)))

    def test_nothing_is_kept_from_one_time_to_the_next(self):
        first = answers(flat(BUSY))
        self.assertEqual(answers(flat([NEXT])), [1, -7])
        self.assertEqual(ask(OPEN, told(3), COUNTS, NEXT), [[0], [0] + LEVELS + NOISES, [0] * 7, [-3]])
        self.assertEqual(answers(flat(BUSY)), first)

    def test_what_is_given_back_is_the_callers_own(self):
        first = answers(flat(BUSY))
        kept = list(first)
        first.clear()
        self.assertEqual(answers(flat(BUSY)), kept)

    def test_it_prints_reads_and_imports_nothing(self):
        def refuse(*things, **named):
            raise AssertionError("reached outside")

        out = io.StringIO()
        with contextlib.redirect_stdout(out), contextlib.redirect_stderr(out):
            with mock.patch.object(builtins, "open", refuse), mock.patch.object(builtins, "input", refuse):
                with mock.patch.object(builtins, "__import__", refuse):
                    answers(flat(BUSY))
        self.assertEqual(out.getvalue(), "")

    def test_forty_calls_of_nearly_thirty_thousand_numbers(self):
        octets = (full_frame(1, 1, EXPECTED) * 24)[:4096]
        calls = [OPEN] + [feed(octets)] * 7 + [COUNTS] * 32
        self.assertEqual(len(calls), 40)
        self.assertLessEqual(len(flat(calls)), 30000)
        joined_and_lost = ask(*calls)[-1][1:3]
        self.assertEqual(joined_and_lost, [16, 7 * 23 - 16])

    def test_marks_all_along_are_gone_through_by_loops(self):
        self.assertEqual(ask_open(feed([0xA5] * 4096), COUNTS), [[0], [0, 0, 0, 4095, 0, 0, 0]])


class BeforeOpen(unittest.TestCase):
    def test_all_but_open_are_refused(self):
        calls = [
            card(), feed([1, 2]), feed([]), NEXT, SAMPLES, REST, FOUND, LEARN, told(0), COUNTS,
            pack(0, 0, 0, EXPECTED),
        ]
        for call in calls:
            self.assertEqual(ask(call), [[-7]], call[0])
        self.assertEqual(ask(*calls), [[-7]] * len(calls))

    def test_also_where_a_number_is_not_as_told(self):
        calls = [
            card(8), card(0, 1, 2), [3, -1], [3, 4097], told(8), told(-1), pack(8, 0, 0, EXPECTED),
            pack(0, 0, 4, EXPECTED), pack(0, 0, 3, [1] * 128),
        ]
        self.assertEqual(ask(*calls), [[-7]] * len(calls))

    def test_what_was_refused_has_left_nothing(self):
        calls = [card(0, levels=[1] * 128), feed(frame(0, 3, 1)), OPEN, told(0), COUNTS, NEXT]
        self.assertEqual(ask(*calls)[2:], [[0], [0] + LEVELS + NOISES, [0] * 7, [-3]])


class Open(unittest.TestCase):
    def test_cards_as_at_the_beginning(self):
        given = ask_open(*[told(number) for number in range(8)])
        self.assertEqual(given, [[0] + LEVELS + NOISES] * 8)

    def test_settings_at_the_beginning(self):
        # 16 times the rest against 80 and 32 times the noise of 32: bright from 160 on, lit from 64 on.
        def rests(*pairs):
            samples = list(EXPECTED)
            for strip, units in pairs:
                samples[strip] = 500 + units
            return ask_open(feed(full_frame(0, 1, samples)), NEXT, FOUND)[-1]

        self.assertEqual(rests((5, 9)), [0])
        self.assertEqual(rests((5, 10)), [1, 5, 1, 160, 320])
        self.assertEqual(rests((5, 10), (6, 3))[:3], [1, 5, 1])
        self.assertEqual(rests((5, 10), (6, 4))[:3], [1, 5, 2])
        self.assertEqual(rests(*[(strip, 10) for strip in range(24, 40)])[:3], [1, 24, 16])
        self.assertEqual(rests(*[(strip, 10) for strip in range(24, 41)]), [0])

    def test_settings_at_the_beginning_to_the_last_sixteenth(self):
        # Strip 5 learns till its level and noise tell 79 from 80 and 31 from 32 times the noise.
        def learnt(*steps):
            calls = []
            for sample, times in steps:
                calls += [feed(full_frame(0, 1, [500] * 5 + [sample] + [500] * 122)), NEXT] + [LEARN] * times
            return calls

        def level_and_noise_and_found(sample, steps):
            samples = [500] * 5 + [sample, 510] + [500] * 121
            given = ask_open(*learnt(*steps), told(0), feed(full_frame(0, 1, samples)), NEXT, FOUND)
            return given[-4][1 + 5], given[-4][129 + 5], given[-1][:3]

        first = [(501, 3), (503, 1), (499, 1)]
        self.assertEqual(level_and_noise_and_found(504, first + [(503, 1), (501, 1)]), (8005, 30, [1, 6, 1]))
        self.assertEqual(level_and_noise_and_found(504, first[:1] + [(503, 1)]), (8004, 30, [1, 5, 2]))
        given = ask_open(*learnt(*first, (503, 2), (501, 1), (510, 0)), told(0), FOUND)
        self.assertEqual((given[-2][1 + 5], given[-2][129 + 5], given[-1]), (8006, 31, [0]))
        given = ask_open(*learnt((501, 3), (503, 2), (510, 0)), told(0), FOUND)
        self.assertEqual((given[-2][1 + 5], given[-2][129 + 5], given[-1]), (8005, 31, [1, 5, 1, 155, 320]))

    def test_nothing_else_at_the_beginning(self):
        self.assertEqual(ask_open(NEXT, SAMPLES, REST, FOUND, LEARN), [[-3]] * 5)
        self.assertEqual(ask_open(COUNTS), [[0] * 7])

    def test_a_second_time_all_is_as_at_the_beginning(self):
        begun = frame(1, 3, 8)
        first = [
            OPEN, card(1, 1, 1, 1, range(128), [16] * 128, [9] * 128),
            feed([7] + frame(1, 3, 9) * 18 + frame(1, 3, 9, (), 1) + frame(1, 0, 9) + begun[:9]), NEXT, COUNTS,
        ]
        given = ask(*first)
        self.assertEqual(given[2:4], [[16], [15, 1, 3, 9, 0]])
        self.assertEqual(given[4], [0, 16, 2, 1 + 14 + 14, 1, 1, 17])
        behind = [
            OPEN, COUNTS, SAMPLES, REST, FOUND, LEARN, NEXT, told(1), feed(begun[9:]), COUNTS,
            feed(frame(1, 3, 9)), COUNTS, NEXT, SAMPLES, NEXT, SAMPLES,
        ]
        self.assertEqual(ask(*(first + behind))[5:], [
            [0], [0] * 7, [-3], [-3], [-3], [-3], [-3], [0] + LEVELS + NOISES, [0], [0, 0, 0, 5, 0, 0, 0],
            [1], [0, 1, 0, 5, 0, 0, 0], [0, 1, 3, 9, 0], [0] + EXPECTED, [-3], [0] + EXPECTED,
        ])

    def test_a_second_time_also_the_settings(self):
        samples = [510] + [500] * 127
        calls = [card(0, 4095, 4095, 1, range(128)), OPEN, feed(full_frame(0, 1, samples)), NEXT, FOUND]
        self.assertEqual(ask_open(*calls)[-1], [1, 0, 1, 160, 0])


class Counts(unittest.TestCase):
    def test_they_are_told_modulo_two_to_the_32(self):
        line = Line()
        line.joined, line.lost, line.dropped = 2 ** 32, 2 ** 32 + 1, 2 ** 32 - 1
        line.spoilt, line.wrong, line.behind = 2 ** 33 + 2, 3, 2 ** 32 + 4
        self.assertEqual(tell_counts(line), [0, 0, 1, 2 ** 32 - 1, 2, 3, 4])


if __name__ == "__main__":
    unittest.main()
