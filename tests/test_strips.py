"""rest and found: shifts, rests and clusters, by the card as it is now."""

import unittest

from helper import FOUND, REST, ask_open, card, feed, in_hand, last

FLAT = [500] * 128


def levels_for(rests):
    """Levels by which a flat frame's strips are above by the numbers of a dict."""
    return [8000 - rests.get(strip, 0) for strip in range(128)]


def rest_of(samples, **settings):
    given = last(*in_hand(samples, card(0, **settings)), REST)
    assert given[0] == 0 and len(given) == 133
    return given[1:129], given[129:]


def found(rests, **settings):
    """The clusters of a flat frame whose strips have these rests, with every noise 16 if not told otherwise."""
    settings.setdefault("noises", [16] * 128)
    given = last(*in_hand(FLAT, card(0, levels=levels_for(rests), **settings)), FOUND)
    assert len(given) == 1 + 4 * given[0]
    return [tuple(given[place:place + 4]) for place in range(1, len(given), 4)]


def rows(rests, **settings):
    return [cluster[:2] for cluster in found(rests, **settings)]


class Rest(unittest.TestCase):
    def test_what_a_strip_is_above_by(self):
        samples = [501, 499, 0, 1023] + [500] * 124
        rests, shifts = rest_of(samples)
        self.assertEqual(rests, [16, -16, -8000, 8368] + [0] * 124)
        self.assertEqual(shifts, [0] * 4)

    def test_levels_count_in_sixteenths(self):
        levels = [8003, 7990] + [8000] * 126
        self.assertEqual(rest_of(FLAT, levels=levels)[0], [-3, 10] + [0] * 126)

    def test_each_chip_has_its_shift(self):
        samples = [501] * 32 + [495] * 32 + [500] * 32 + [1023] * 32
        self.assertEqual(rest_of(samples), ([0] * 128, [16, -80, 0, 16 * 523]))
        rests, shifts = rest_of([500 + strip for strip in range(128)])
        self.assertEqual(shifts, [16 * 15, 16 * 47, 16 * 79, 16 * 111])
        self.assertEqual(rests, [16 * (strip % 32 - 15) for strip in range(128)])

    def test_of_two_middle_ones_the_lower(self):
        samples = [490, 510] * 16 + [500] * 96
        rests, shifts = rest_of(samples)
        self.assertEqual(shifts, [-160, 0, 0, 0])
        self.assertEqual(rests[:32], [0, 320] * 16)

    def test_in_order_whatever_the_strips_order(self):
        samples = [500 + (strip * 7) % 32 for strip in range(32)] + [500] * 96
        self.assertEqual(rest_of(samples)[1][0], 15 * 16)

    def test_an_odd_number_of_strips(self):
        samples = [500 + strip for strip in range(32)] + [500] * 96
        self.assertEqual(rest_of(samples, dead=[0])[1][0], 16 * 16)
        self.assertEqual(rest_of(samples, dead=[31])[1][0], 15 * 16)

    def test_an_even_number_of_strips_that_are_not_dead(self):
        samples = [500 + strip for strip in range(32)] + [500] * 96
        self.assertEqual(rest_of(samples, dead=[0, 1])[1][0], 16 * 16)
        self.assertEqual(rest_of(samples, dead=range(2, 32))[1][0], 0)
        self.assertEqual(rest_of(samples, dead=[k for k in range(32) if k not in (9, 20)])[1][0], 9 * 16)
        self.assertEqual(rest_of(samples, dead=[k for k in range(32) if k != 20])[1][0], 20 * 16)

    def test_dead_strips_have_no_rest(self):
        samples = [1023, 0] + [501] * 126
        rests, shifts = rest_of(samples, dead=[0, 1, 127])
        self.assertEqual(rests, [0] * 128)
        self.assertEqual(shifts, [16] * 4)

    def test_a_chip_all_dead(self):
        samples = [600] * 32 + [501] * 32 + [300] * 32 + [502] * 32
        rests, shifts = rest_of(samples, dead=list(range(32)) + list(range(64, 96)))
        self.assertEqual(rests, [0] * 128)
        self.assertEqual(shifts, [0, 16, 0, 32])

    def test_by_the_card_as_it_is_now(self):
        calls = in_hand(FLAT) + [card(levels=[8001] * 128), REST, card(1, levels=[7] * 128), REST]
        given = ask_open(*calls, card(dead=range(128)), REST)
        self.assertEqual(given[3], [0] + [0] * 128 + [-1] * 4)
        self.assertEqual(given[5], given[3])
        self.assertEqual(given[7], [0] * 133)


class LitAndBright(unittest.TestCase):
    def test_at_the_edge(self):
        # 16 times 66 is 33 times 32.
        noises = [32] * 128
        self.assertEqual(rows({9: 66}, high=33, low=33, noises=noises), [(9, 1)])
        self.assertEqual(rows({9: 65}, high=33, low=33, noises=noises), [])
        self.assertEqual(rows({9: 66, 10: 40}, high=33, low=20, noises=noises), [(9, 2)])
        self.assertEqual(rows({9: 66, 10: 39}, high=33, low=20, noises=noises), [(9, 1)])

    def test_each_strip_by_its_own_noise(self):
        noises = [16] * 128
        noises[9] = 17
        self.assertEqual(rows({8: 80, 11: 80}, noises=noises), [(8, 1), (11, 1)])
        self.assertEqual(rows({9: 84}, noises=noises), [])
        self.assertEqual(rows({9: 85}, noises=noises), [(9, 1)])
        self.assertEqual(rows({8: 80, 9: 33}, noises=noises), [(8, 1)])
        self.assertEqual(rows({8: 80, 9: 34}, noises=noises), [(8, 2)])

    def test_a_rest_below_nothing_is_never_lit(self):
        self.assertEqual(rows({9: -500}, high=1, low=1, noises=[1] * 128), [])
        self.assertEqual(rows({9: 1}, high=16, low=1, noises=[1] * 128), [(9, 1)])

    def test_no_bright_strip(self):
        self.assertEqual(rows({9: 79, 10: 79, 11: 79}), [])

    def test_one_bright_strip_anywhere(self):
        for bright in (9, 10, 11):
            rests = {9: 32, 10: 32, 11: 32}
            rests[bright] = 80
            self.assertEqual(rows(rests), [(9, 3)])

    def test_the_rest_counts_not_what_it_is_above_by(self):
        samples = [600 + (10 if strip == 40 else 0) for strip in range(128)]
        self.assertEqual(last(*in_hand(samples), FOUND), [1, 40, 1, 160, 40 * 64])


class Clusters(unittest.TestCase):
    def test_none(self):
        self.assertEqual(found({}), [])

    def test_at_the_ends(self):
        self.assertEqual(found({0: 80, 127: 81}), [(0, 1, 80, 0), (127, 1, 81, 127 * 64)])

    def test_rising(self):
        rests = {100: 900, 101: 90, 3: 80, 50: 100, 51: 100, 52: 40}
        self.assertEqual(rows(rests), [(3, 1), (50, 3), (100, 2)])

    def test_across_chips(self):
        self.assertEqual(rows({31: 80, 32: 40}), [(31, 2)])
        self.assertEqual(rows({62: 40, 63: 40, 64: 80, 65: 40}), [(62, 4)])

    def test_a_strip_between_that_is_not_lit(self):
        self.assertEqual(rows({9: 80, 10: 31, 11: 80}), [(9, 1), (11, 1)])
        self.assertEqual(rows({9: 80, 10: 31, 11: 40}), [(9, 1)])

    def test_one_dead_strip_between(self):
        self.assertEqual(found({9: 80, 10: 900, 11: 80}, dead=[10]), [(9, 3, 160, 640)])
        self.assertEqual(rows({9: 40, 11: 80}, dead=[10]), [(9, 3)])
        self.assertEqual(rows({9: 40, 11: 80, 13: 40}, dead=[10, 12]), [(9, 5)])
        self.assertEqual(rows({31: 40, 33: 80}, dead=[32]), [(31, 3)])
        self.assertEqual(rows({30: 40, 32: 80}, dead=[31]), [(30, 3)])

    def test_two_dead_strips_between(self):
        self.assertEqual(rows({9: 80, 12: 80}, dead=[10, 11]), [(9, 1), (12, 1)])
        self.assertEqual(rows({9: 40, 12: 80}, dead=[10, 11]), [(12, 1)])

    def test_dead_strips_at_its_ends_are_not_its_own(self):
        self.assertEqual(rows({8: 99, 9: 80, 10: 99}, dead=[8, 10]), [(9, 1)])
        self.assertEqual(rows({0: 99, 1: 80, 126: 80, 127: 99}, dead=[0, 127]), [(1, 1), (126, 1)])

    def test_a_dead_strip_and_one_that_is_not_lit_between(self):
        self.assertEqual(rows({9: 80, 12: 80}, dead=[10]), [(9, 1), (12, 1)])

    def test_exactly_wide_strips_and_one_more(self):
        for wide in (1, 2, 7, 16):
            just = {strip: 80 for strip in range(26, 26 + wide)}
            more = {strip: 80 for strip in range(26, 27 + wide)}
            self.assertEqual(rows(just, wide=wide), [(26, wide)])
            self.assertEqual(rows(more, wide=wide), [])

    def test_a_dead_strip_between_counts_for_wide(self):
        self.assertEqual(rows({9: 80, 11: 80}, dead=[10], wide=3), [(9, 3)])
        self.assertEqual(rows({9: 80, 11: 80}, dead=[10], wide=2), [])

    def test_one_too_wide_is_left_out_alone(self):
        rests = {3: 80, 20: 80, 21: 80, 22: 80, 40: 80, 41: 80}
        self.assertEqual(rows(rests, wide=2), [(3, 1), (40, 2)])

    def test_by_the_card_as_it_is_now(self):
        calls = in_hand([520, 520] + [500] * 126) + [FOUND, card(wide=1), FOUND, card(dead=[0]), FOUND]
        given = ask_open(*calls, card(1, wide=1, dead=[1]), FOUND)
        self.assertEqual(given[2], [1, 0, 2, 640, 32])
        self.assertEqual(given[4], [0])
        self.assertEqual(given[6], [1, 1, 1, 320, 64])
        self.assertEqual(given[8], given[6])


class SumAndMiddle(unittest.TestCase):
    def middle(self, rests):
        clusters = found(rests, high=1, low=1, noises=[1] * 128)
        self.assertEqual(len(clusters), 1)
        return clusters[0][2:]

    def test_the_sum_and_the_middle(self):
        self.assertEqual(self.middle({10: 5}), (5, 640))
        self.assertEqual(self.middle({10: 1, 11: 3}), (4, 688))
        self.assertEqual(self.middle({10: 1, 11: 2, 12: 5}), (8, 64 * (10 + 22 + 60) // 8))

    def test_rounded_to_the_nearest(self):
        # 64 times 1 by 3 is 21 and a third, 64 times 2 by 3 is 42 and two thirds.
        self.assertEqual(self.middle({0: 2, 1: 1}), (3, 21))
        self.assertEqual(self.middle({0: 1, 1: 2}), (3, 43))

    def test_of_two_as_near_the_greater(self):
        self.assertEqual(self.middle({0: 127, 1: 1}), (128, 1))
        self.assertEqual(self.middle({0: 125, 1: 3}), (128, 2))
        self.assertEqual(self.middle({0: 65, 1: 63}), (128, 32))
        self.assertEqual(self.middle({0: 128, 1: 1}), (129, 0))
        self.assertEqual(self.middle({0: 126, 1: 1}), (127, 1))

    def test_great_numbers(self):
        samples = [0] * 120 + [1023] * 8
        self.assertEqual(last(*in_hand(samples), FOUND), [1, 120, 8, 8 * 16368, 7904])


class NoFrame(unittest.TestCase):
    def test_none_in_hand(self):
        self.assertEqual(ask_open(REST, FOUND, feed([]), FOUND), [[-3], [-3], [0], [-3]])


if __name__ == "__main__":
    unittest.main()
