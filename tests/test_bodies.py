"""The four kinds of body: what each tells, and what makes one wrong."""

import unittest

from helper import (
    COUNTS, FLAT_GROUP, NEXT, SAMPLES, ask_open, bits_to_octets, card, feed, frame, full_body, number_bits,
    picked_bits, picked_body, stepped_bits, stepped_body,
)

EXPECTED = [500] * 128


class Bodies(unittest.TestCase):
    def check_told(self, kind, body, samples, *settings):
        given = ask_open(*settings, feed(frame(0, kind, 1, body)), NEXT, SAMPLES, COUNTS)[len(settings):]
        self.assertEqual(given, [[1], [0, 0, kind, 1, len(body)], [0] + list(samples), [0, 1, 0, 0, 0, 0, 0]])

    def check_wrong(self, kind, body):
        given = ask_open(feed(frame(0, kind, 1, body) + [0] * 10), COUNTS, NEXT)
        self.assertEqual(given, [[0], [0, 0, 0, len(body) + 24, 0, 1, 0], [-3]])


class Full(Bodies):
    def test_bit_by_bit(self):
        self.check_told(0, [0xFF, 0x03] + [0] * 158, [1023] + [0] * 127)
        self.check_told(0, [0x00, 0x04] + [0] * 158, [0, 1] + [0] * 126)
        self.check_told(0, [0] * 159 + [0x80], [0] * 127 + [512])
        self.check_told(0, [0xFF] * 160, [1023] * 128)

    def test_all_sorts_of_samples(self):
        samples = [(strip * 331 + 7) % 1024 for strip in range(128)]
        self.check_told(0, full_body(samples), samples)

    def test_a_byte_too_many_or_too_few(self):
        for size in (0, 1, 159, 161, 200):
            self.check_wrong(0, [0] * size)


class Picked(Bodies):
    def test_no_bit(self):
        self.check_told(1, [0] * 16, EXPECTED)

    def test_some(self):
        self.check_told(1, [1] + [0] * 15 + [0xFF, 0x03], [1023] + [500] * 127)
        self.check_told(1, [0] * 15 + [0x80] + [0x01, 0x02], [500] * 127 + [513])
        picked = {0: 0, 7: 1, 8: 1023, 31: 512, 32: 500, 126: 3, 127: 700}
        self.check_told(1, picked_body(picked), [picked.get(strip, 500) for strip in range(128)])

    def test_all(self):
        samples = [(strip * 77 + 5) % 1024 for strip in range(128)]
        body = picked_body(dict(enumerate(samples)))
        self.assertEqual(len(body), 176)
        self.check_told(1, body, samples)

    def test_others_are_as_expected_rounded_down(self):
        levels = [0, 1, 15, 16, 17, 31, 32, 16367, 16368] + [8015] * 119
        expected = [0, 0, 0, 1, 1, 1, 2, 1022, 1023] + [500] * 119
        self.check_told(1, [0] * 16, expected, card(levels=levels))
        self.check_told(1, picked_body({3: 9}), expected[:3] + [9] + expected[4:], card(levels=levels))

    def test_by_the_frames_own_card(self):
        calls = [card(1, levels=[160] * 128), feed(frame(1, 1, 1, [0] * 16)), NEXT, SAMPLES]
        self.assertEqual(ask_open(*calls)[-1], [0] + [10] * 128)

    def test_a_bit_after_the_end(self):
        bits = picked_bits({5: 9})
        self.assertEqual(len(bits), 138)
        for zeros in range(6):
            self.check_wrong(1, bits_to_octets(bits + "0" * zeros + "1"))

    def test_a_byte_too_many_or_too_few(self):
        for picked in ({}, {5: 9}, {5: 0}, {1: 0, 2: 0, 3: 0, 4: 0}, dict.fromkeys(range(128), 0)):
            body = picked_body(picked)
            self.check_wrong(1, body + [0])
            self.check_wrong(1, body + [1])
            self.check_wrong(1, body[:-1])
        self.check_wrong(1, [])
        self.check_wrong(1, [255] * 16)


class Stepped(Bodies):
    def test_widths_of_none(self):
        self.check_told(2, [0] * 4, [512] * 128)

    def test_bit_by_bit(self):
        # w 2, then z 1 and z 2: one down, one up. All behind these stays.
        self.check_told(2, [2 + (1 << 4) + (2 << 6)] + [0] * 7, [511] + [512] * 127)

    def test_even_goes_up_and_odd_goes_down(self):
        codes = [0, 1, 2, 3, 4, 5, 6, 7] * 2
        steps = [0, -1, 1, -2, 2, -3, 3, -4] * 2
        samples = []
        sample = 512
        for step in steps:
            sample += step
            samples.append(sample)
        self.check_told(2, stepped_body([(3, codes)] + [FLAT_GROUP] * 7), samples + [sample] * 112)

    def test_from_group_to_group(self):
        groups = [(width, [0] * 15 + [2 ** width - 2]) for width in range(1, 9)]
        samples = []
        sample = 512
        for width in range(1, 9):
            samples += [sample] * 15
            sample += (2 ** width - 2) // 2
            samples.append(sample)
        self.check_told(2, stepped_body(groups), samples)

    def test_width_eleven_at_its_ends(self):
        codes = [1023, 2046, 2045, 2046, 2045] + [0] * 11
        body = stepped_body([(11, codes)] + [(11, [0] * 16)] * 7)
        self.assertEqual(len(body), 180)
        self.check_told(2, body, [0, 1023, 0, 1023, 0] + [0] * 123)

    def test_a_width_above_eleven(self):
        for width in (12, 13, 14, 15):
            self.check_wrong(2, stepped_body([(width, [0] * 16)] + [FLAT_GROUP] * 7))
            self.check_wrong(2, stepped_body([FLAT_GROUP] * 7 + [(width, [0] * 16)]))

    def test_a_sample_out_of_its_bounds(self):
        def body(codes):
            return stepped_body([(11, codes + [0] * (16 - len(codes)))] + [FLAT_GROUP] * 7)

        self.check_told(2, body([1023]), [0] * 128)
        self.check_told(2, body([1022]), [1023] * 128)
        self.check_wrong(2, body([1025]))
        self.check_wrong(2, body([1024]))
        self.check_wrong(2, body([2047, 2046]))
        self.check_wrong(2, body([1025, 2]))
        self.check_wrong(2, body([1024, 1]))
        self.check_wrong(2, stepped_body([FLAT_GROUP] * 7 + [(11, [0] * 15 + [1024])]))
        self.check_wrong(2, stepped_body([FLAT_GROUP] * 7 + [(11, [0] * 15 + [1025])]))

    def test_a_byte_too_many_or_too_few(self):
        for groups in ([FLAT_GROUP] * 8, [(5, [3, 4] * 8)] * 8, [(11, [0] * 16)] * 8):
            body = stepped_body(groups)
            self.check_wrong(2, body + [0])
            self.check_wrong(2, body[:-1])
        self.check_wrong(2, [])

    def test_bits_after_the_end(self):
        bits = stepped_bits([FLAT_GROUP] * 7 + [(1, [1] * 16)])
        self.check_told(2, bits_to_octets(bits), [512] * 112 + [511 - k for k in range(16)])
        for bit in range(8):
            self.check_wrong(2, bits_to_octets(bits + number_bits(1 << bit, 8)))


class Empty(Bodies):
    def test_all_as_expected(self):
        self.check_told(3, [], EXPECTED)
        levels = [strip * 128 + 15 for strip in range(127)] + [16368]
        self.check_told(3, [], [strip * 8 for strip in range(127)] + [1023], card(levels=levels))

    def test_with_a_body(self):
        for size in (1, 16, 160, 200):
            self.check_wrong(3, [0] * size)


if __name__ == "__main__":
    unittest.main()
