"""pack: frames of each kind, the shortest one, and that they can be fed again."""

import unittest

from helper import (
    COUNTS, FLAT_GROUP, LEARN, LEVELS, NEXT, NOISES, SAMPLES, ask_open, card, changed, feed, frame, full_body,
    in_hand, last, pack, picked_body, stepped_body, told,
)

EXPECTED = [500] * 128
MIXED = [(strip * 331 + 7) % 1024 for strip in range(128)]


def packed(samples, kind=-1, *settings, number=0, event=1):
    given = last(*settings, pack(number, event, kind, samples))
    assert given[0] == len(given) - 1
    return given[1:]


def kind_and_size(samples, *settings):
    octets = packed(samples, -1, *settings)
    return octets[3], len(octets) - 14


class Bounds(unittest.TestCase):
    def test_at_the_ends(self):
        for number in (0, 7):
            self.assertEqual(packed(EXPECTED, 3, number=number), frame(number, 3, 1))
        for event in (0, 2 ** 32 - 1, 0x04030201):
            self.assertEqual(packed(EXPECTED, 3, event=event), frame(0, 3, event))
        for kind in (-1, 0, 1, 2, 3):
            self.assertEqual(packed(EXPECTED, kind)[3], 3 if kind == -1 else kind)
        for sample in (0, 1023):
            self.assertEqual(packed([sample] * 128, 0), frame(0, 0, 1, full_body([sample] * 128)))

    def test_one_beyond(self):
        for number in (-1, 8, 4294967295, -2147483648):
            self.assertEqual(ask_open(pack(number, 1, 0, EXPECTED)), [[-2]])
        for event in (-1, -2147483648):
            self.assertEqual(ask_open(pack(0, event, 0, EXPECTED)), [[-2]])
        for kind in (-2, 4, 4294967295):
            self.assertEqual(ask_open(pack(0, 1, kind, EXPECTED)), [[-2]])
        for kind in (-1, 0, 1, 2, 3):
            for strip in (0, 64, 127):
                for sample in (-1, 1024, 4294967295):
                    self.assertEqual(ask_open(pack(0, 1, kind, changed(EXPECTED, {strip: sample}))), [[-2]])

    def test_nothing_changes(self):
        calls = [feed(frame(0, 3, 1) + frame(0, 3, 2)), NEXT]
        after = [COUNTS, SAMPLES, NEXT, told(0)]
        packs = [pack(0, 1, 0, MIXED), pack(0, 1, 3, MIXED), pack(9, 1, 3, MIXED)]
        self.assertEqual(ask_open(*calls, *packs, *after)[5:], ask_open(*calls, *after)[2:])
        self.assertEqual(last(*calls, *packs, told(0)), [0] + LEVELS + NOISES)


class Full(unittest.TestCase):
    def test_all_samples(self):
        self.assertEqual(packed(MIXED, 0), frame(0, 0, 1, full_body(MIXED)))
        self.assertEqual(last(pack(0, 1, 0, MIXED))[0], 174)


class Picked(unittest.TestCase):
    def test_those_that_are_not_as_expected(self):
        self.assertEqual(packed(EXPECTED, 1), frame(0, 1, 1, [0] * 16))
        picked = {0: 0, 5: 1023, 64: 501, 127: 499}
        self.assertEqual(packed(changed(EXPECTED, picked), 1), frame(0, 1, 1, picked_body(picked)))

    def test_all_of_them(self):
        samples = [600] * 128
        octets = packed(samples, 1)
        self.assertEqual(octets, frame(0, 1, 1, picked_body(dict(enumerate(samples)))))
        self.assertEqual(len(octets), 190)

    def test_by_that_cards_levels_rounded_down(self):
        levels = [0, 15, 16, 16367, 16368] + [8015] * 123
        samples = [0, 0, 1, 1022, 1023] + [500] * 123
        settings = card(3, levels=levels)
        self.assertEqual(packed(samples, 1, settings, number=3), frame(3, 1, 1, [0] * 16))
        self.assertEqual(packed(samples, 1, settings, number=2)[10:12], [0x1F, 0])

    def test_by_the_levels_as_they_are_now(self):
        samples = changed(EXPECTED, {0: 499})
        calls = in_hand(samples) + [pack(0, 1, 1, samples), LEARN, pack(0, 1, 1, samples)]
        given = ask_open(*calls)
        self.assertEqual(given[2][1:], frame(0, 1, 1, picked_body({0: 499})))
        self.assertEqual(given[4][1:], frame(0, 1, 1, [0] * 16))


class Stepped(unittest.TestCase):
    def test_widths_of_none(self):
        self.assertEqual(packed([512] * 128, 2), frame(0, 2, 1, [0] * 4))

    def test_steps_at_the_edges_of_each_width(self):
        # Going up by u takes z 2u, going down by d takes z 2d - 1.
        for step, code, width in ((0, 0, 0), (-1, 1, 1), (1, 2, 2), (-2, 3, 2), (2, 4, 3), (-4, 7, 3), (4, 8, 4),
                                  (-256, 511, 9), (256, 512, 10), (511, 1022, 10), (-512, 1023, 10)):
            samples = [512] * 127 + [512 + step]
            groups = [FLAT_GROUP] * 7 + [(width, [0] * 15 + [code])]
            self.assertEqual(packed(samples, 2), frame(0, 2, 1, stepped_body(groups)), step)

    def test_the_widest(self):
        samples = [0, 1023] * 64
        groups = [(11, [1023] + [2046, 2045] * 7 + [2046])] + [(11, [2045, 2046] * 8)] * 7
        self.assertEqual(packed(samples, 2), frame(0, 2, 1, stepped_body(groups)))
        self.assertEqual(last(pack(0, 1, 2, samples))[0], 194)

    def test_each_group_has_its_own_width(self):
        samples = [513] * 16 + [513] * 16 + [523] * 48 + [522] * 48
        groups = [(2, [2] + [0] * 15), FLAT_GROUP, (5, [20] + [0] * 15), FLAT_GROUP, FLAT_GROUP, (1, [1] + [0] * 15),
                  FLAT_GROUP, FLAT_GROUP]
        self.assertEqual(packed(samples, 2), frame(0, 2, 1, stepped_body(groups)))

    def test_the_widest_number_of_a_group_anywhere(self):
        samples = [512] * 7 + [515] + [512] * 120
        groups = [(3, [0] * 7 + [6, 5] + [0] * 7)] + [FLAT_GROUP] * 7
        self.assertEqual(packed(samples, 2), frame(0, 2, 1, stepped_body(groups)))


class Empty(unittest.TestCase):
    def test_all_as_expected(self):
        self.assertEqual(ask_open(pack(6, 9, 3, EXPECTED)), [[14] + frame(6, 3, 9)])
        levels = [strip * 128 + 15 for strip in range(128)]
        self.assertEqual(packed([strip * 8 for strip in range(128)], 3, card(levels=levels)), frame(0, 3, 1))

    def test_not_all_as_expected(self):
        for strip in (0, 77, 127):
            for sample in (499, 501):
                self.assertEqual(ask_open(pack(0, 1, 3, changed(EXPECTED, {strip: sample}))), [[-4]])


class Shortest(unittest.TestCase):
    def test_all_as_expected(self):
        self.assertEqual(kind_and_size(EXPECTED), (3, 0))
        self.assertEqual(kind_and_size([512] * 128, card(levels=[512 * 16] * 128)), (3, 0))

    def test_kind_two(self):
        self.assertEqual(kind_and_size([512] * 128), (2, 4))

    def test_kind_one(self):
        levels = [16 * sample for sample in MIXED]
        self.assertEqual(kind_and_size(changed(MIXED, {3: 0}), card(levels=levels)), (1, 18))

    def test_kind_nought(self):
        self.assertEqual(kind_and_size([0, 1023] * 64), (0, 160))

    def test_one_and_two_as_short(self):
        # Up by 4 in one group and down by 4 in the next: widths 4 and 3, so 4 + 2 * 7 bytes; one sample: 18 bytes.
        samples = changed([512] * 128, {15: 516})
        levels = card(levels=[512 * 16] * 128)
        self.assertEqual([len(packed(samples, kind, levels)) - 14 for kind in (1, 2)], [18, 18])
        self.assertEqual(kind_and_size(samples, levels), (1, 18))
        nearer = changed([512] * 128, {15: 515})
        self.assertEqual(kind_and_size(nearer, levels), (2, 16))

    def test_nought_and_one_as_short(self):
        samples = [0, 1023] * 64
        levels = [16 * sample if strip >= 115 else 8000 for strip, sample in enumerate(samples)]
        self.assertEqual([len(packed(samples, kind, card(levels=levels))) - 14 for kind in (0, 1, 2)], [160, 160, 180])
        self.assertEqual(kind_and_size(samples, card(levels=levels)), (0, 160))
        levels[0] = 0
        self.assertEqual(kind_and_size(samples, card(levels=levels)), (1, 159))

    def test_nought_and_two_as_short(self):
        # Steps of 511 take widths of 10, of 255 widths of 9: six and two groups are 4 + 2 * 78 bytes.
        samples = [1023, 512] * 48 + [767, 512] * 16
        self.assertEqual([len(packed(samples, kind)) - 14 for kind in (0, 1, 2)], [160, 176, 160])
        self.assertEqual(kind_and_size(samples), (0, 160))
        nearer = [1023, 512] * 40 + [767, 512] * 24
        self.assertEqual(kind_and_size(nearer), (2, 158))


class FedAgain(unittest.TestCase):
    def test_the_same_samples_are_told(self):
        levels = [(strip * 5003) % 16369 for strip in range(128)]
        rows = [MIXED, EXPECTED, [0] * 128, [1023] * 128, [0, 1023] * 64, [level // 16 for level in levels],
                [512 + strip % 5 for strip in range(128)]]
        settings = card(5, levels=levels)
        for samples in rows:
            for kind in (-1, 0, 1, 2):
                octets = packed(samples, kind, settings, number=5, event=9)
                given = ask_open(settings, feed(octets), NEXT, SAMPLES, COUNTS)
                self.assertEqual(given[1:3], [[1], [0, 5, octets[3], 9, len(octets) - 14]])
                self.assertEqual(given[3:], [[0] + samples, [0, 1, 0, 0, 0, 0, 0]])

    def test_of_kind_three(self):
        octets = packed(EXPECTED, 3)
        self.assertEqual(last(feed(octets), NEXT, SAMPLES), [0] + EXPECTED)


if __name__ == "__main__":
    unittest.main()
