"""card and told: bounds, order, and that a refusal changes nothing."""

import unittest

from helper import (
    COUNTS, FOUND, LEVELS, NEXT, NOISES, REST, ask_open, card, changed, feed, full_frame, in_hand, last, told,
)

RISING = [strip * 3 for strip in range(128)]
FALLING = [4095 - strip for strip in range(128)]
FIRST_LEVEL = 21
FIRST_NOISE = FIRST_LEVEL + 128


class Bounds(unittest.TestCase):
    def check(self, call, answer):
        self.assertEqual(ask_open(call), [[answer]], call[:5])

    def test_the_least_and_the_greatest(self):
        for number in (0, 7):
            self.check(card(number), 0)
        for high, low in ((1, 1), (4095, 1), (4095, 4095), (80, 80)):
            self.check(card(0, high, low), 0)
        for wide in (1, 128):
            self.check(card(0, wide=wide), 0)
        for level in (0, 16368):
            self.check(card(levels=[level] * 128), 0)
        for noise in (1, 4095):
            self.check(card(noises=[noise] * 128), 0)

    def test_one_beyond(self):
        for number in (-1, 8, -2147483648, 4294967295):
            self.check(card(number), -2)
        for high, low in ((80, 0), (0, 0), (4096, 32), (4096, 4096), (79, 80), (31, 32), (80, -1), (-1, 1)):
            self.check(card(0, high, low), -2)
        for wide in (0, 129, -1, 4294967295):
            self.check(card(0, wide=wide), -2)

    def test_each_level_and_noise_is_looked_at(self):
        for strip in (0, 1, 63, 126, 127):
            for level in (-1, 16369, 4294967295):
                self.check(changed(card(), {FIRST_LEVEL + strip: level}), -2)
            for noise in (0, 4096, -1):
                self.check(changed(card(), {FIRST_NOISE + strip: noise}), -2)
            self.check(changed(card(), {FIRST_LEVEL + strip: 0, FIRST_NOISE + strip: 1}), 0)
            self.check(changed(card(), {FIRST_LEVEL + strip: 16368, FIRST_NOISE + strip: 4095}), 0)

    def test_a_refusal_changes_nothing(self):
        good = card(2, 70, 60, 3, [4], RISING, FALLING)
        other = card(2, 100, 50, 9, range(128), FALLING, [9] * 128)
        beyond = [
            {1: -1}, {1: 8}, {2: 49}, {2: 4096}, {3: 0}, {3: 101}, {4: 0}, {4: 129},
            {FIRST_LEVEL + 127: -1}, {FIRST_LEVEL + 127: 16369}, {FIRST_NOISE + 127: 0}, {FIRST_NOISE + 127: 4096},
        ]
        samples = [0] * 60 + [1000, 1001] + [0] * 66
        asked = [told(number) for number in range(8)] + [feed(full_frame(2, 1, samples)), NEXT, REST, FOUND, COUNTS]
        before = ask_open(good, *asked)
        self.assertEqual(ask_open(other), [[0]])
        for changes in beyond:
            after = ask_open(good, changed(other, changes), *asked)
            self.assertEqual(after[1], [-2], changes)
            self.assertEqual(after[2:], before[1:], changes)


class Settings(unittest.TestCase):
    def test_levels_and_noises_are_told_in_order(self):
        given = ask_open(card(5, levels=RISING, noises=FALLING), told(5), told(4), told(6))
        self.assertEqual(given, [[0], [0] + RISING + FALLING] + [[0] + LEVELS + NOISES] * 2)

    def test_set_again_all_of_it_is_new(self):
        calls = [card(0, 4095, 4095, 1, range(128), RISING, FALLING), card(0)] + in_hand([510] * 2 + [500] * 126)
        self.assertEqual(ask_open(*calls, FOUND, told(0))[-2:], [[1, 0, 2, 320, 32], [0] + LEVELS + NOISES])

    def test_high_is_handed_ahead_of_low(self):
        # Strip 1 passes 50 but not 100 times its noise, so it is lit and not bright.
        samples = [500 + 13, 500 + 7] + [500] * 126
        self.assertEqual(last(*in_hand(samples, card(0, 100, 50)), FOUND), [1, 0, 2, 320, 22])
        self.assertEqual(last(*in_hand([500 + 7] + [500] * 127, card(0, 100, 50)), FOUND), [0])

    def test_wide_is_handed_behind_low(self):
        samples = [520] * 3 + [500] * 125
        self.assertEqual(last(*in_hand(samples, card(0, wide=2)), FOUND), [0])
        self.assertEqual(last(*in_hand(samples, card(0, wide=3)), FOUND), [1, 0, 3, 960, 64])

    def test_dead_strips_stand_bit_by_bit_lowest_first(self):
        for strip in (0, 1, 7, 8, 15, 16, 64, 120, 127):
            raised = [k for k in (strip - 8, strip - 7, strip - 1, strip, strip + 1, strip + 7, strip + 8) if 0 <= k < 128]
            samples = [510 if k in raised else 500 for k in range(128)]
            call = changed(card(), {5 + strip // 8: 1 << (strip % 8)})
            rests = last(*in_hand(samples, call), REST)[1:129]
            self.assertEqual([k for k in range(128) if rests[k] == 160], [k for k in raised if k != strip])

    def test_a_card_of_its_own_each(self):
        calls = [card(number, levels=[number] * 128, noises=[number + 1] * 128) for number in range(8)]
        given = ask_open(*calls, *[told(number) for number in range(8)])
        self.assertEqual(given[8:], [[0] + [number] * 128 + [number + 1] * 128 for number in range(8)])


class Told(unittest.TestCase):
    def test_card_outside(self):
        for number in (-1, 8, -2147483648, 4294967295):
            self.assertEqual(ask_open(told(number)), [[-2]])

    def test_at_the_ends(self):
        self.assertEqual(ask_open(told(0), told(7)), [[0] + LEVELS + NOISES] * 2)


if __name__ == "__main__":
    unittest.main()
