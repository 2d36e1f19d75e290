"""learn: which strips move, which way, and how far."""

import unittest

from helper import (
    FOUND, LEARN, LEVELS, NEXT, NOISES, REST, SAMPLES, ask_open, card, changed, feed, frame, in_hand, picked_body,
    stepped_body, FLAT_GROUP, told,
)

FLAT = [500] * 128


def learnt(samples, **settings):
    """Levels and noises after one learn."""
    given = ask_open(*in_hand(samples, card(0, **settings)), LEARN, told(0))
    assert given[-2] == [0] and given[-1][0] == 0
    return given[-1][1:129], given[-1][129:]


def one(rest, noise, **settings):
    """What becomes of the level 8000 - rest and the noise of strip 9, which has that rest in a flat frame."""
    levels = changed(LEVELS, {9: 8000 - rest})
    noises = changed([4095] * 128, {9: noise})
    new_levels, new_noises = learnt(FLAT, levels=levels, noises=noises, **settings)
    return new_levels[9] - levels[9], new_noises[9] - noise


class Refusals(unittest.TestCase):
    def test_none_in_hand(self):
        self.assertEqual(ask_open(LEARN, feed(frame(0, 0, 1, [0] * 160)), LEARN, told(0)),
                         [[-3], [1], [-3], [0] + LEVELS + NOISES])

    def test_kinds_one_and_three(self):
        for kind, body in ((1, picked_body({5: 510})), (1, picked_body({})), (3, [])):
            given = ask_open(feed(frame(0, kind, 1, body)), NEXT, LEARN, told(0), SAMPLES)
            self.assertEqual(given[2:4], [[-4], [0] + LEVELS + NOISES])
            self.assertEqual(given[4][0], 0)

    def test_kinds_nought_and_two(self):
        given = ask_open(feed(frame(0, 0, 1, [0] * 160)), NEXT, LEARN, told(0))
        self.assertEqual(given[2:], [[0], [0] + LEVELS + [31] * 128])
        given = ask_open(feed(frame(0, 2, 1, stepped_body([FLAT_GROUP] * 8))), NEXT, LEARN, told(0))
        self.assertEqual(given[2:], [[0], [0] + LEVELS + [31] * 128])


class Moves(unittest.TestCase):
    def test_the_level_goes_where_the_rest_is(self):
        self.assertEqual(one(1, 32)[0], 1)
        self.assertEqual(one(60, 32)[0], 1)
        self.assertEqual(one(-1, 32)[0], -1)
        self.assertEqual(one(-3000, 32)[0], -1)
        self.assertEqual(one(0, 32)[0], 0)

    def test_the_noise_goes_where_the_rests_size_is(self):
        self.assertEqual(one(20, 29)[1], 1)
        self.assertEqual(one(20, 30)[1], 0)
        self.assertEqual(one(20, 31)[1], -1)
        self.assertEqual(one(-20, 29)[1], 1)
        self.assertEqual(one(-20, 30)[1], 0)
        self.assertEqual(one(-20, 31)[1], -1)
        self.assertEqual(one(0, 2)[1], -1)
        self.assertEqual(one(2, 3)[1], 0)

    def test_by_the_rest_and_not_what_it_is_above_by(self):
        samples = [510] * 32 + [490] * 32 + [500] * 64
        levels, noises = learnt(samples)
        self.assertEqual(levels, LEVELS)
        self.assertEqual(noises, [31] * 128)

    def test_the_level_is_held(self):
        samples = [10] * 128
        samples[5] = 0
        levels, noises = learnt(samples, levels=[1] * 5 + [0] + [1] * 122)
        self.assertEqual(levels[5], 0)
        levels, noises = learnt(samples, levels=[1] * 128)
        self.assertEqual(levels[5], 0)
        samples = [1022] * 128
        samples[5] = 1023
        levels, noises = learnt(samples, levels=[16368] * 128)
        self.assertEqual(levels[5], 16368)
        levels, noises = learnt(samples, levels=[16367] * 128)
        self.assertEqual(levels[5], 16368)

    def test_the_noise_is_held(self):
        self.assertEqual(one(0, 1)[1], 0)
        self.assertEqual(one(0, 2)[1], -1)
        self.assertEqual(one(-3000, 4095)[1], 0)
        self.assertEqual(one(-3000, 4094)[1], 1)
        self.assertEqual(one(-2730, 4095)[1], 0)
        self.assertEqual(one(-2729, 4095)[1], -1)

    def test_all_strips_and_the_frames_own_card_alone(self):
        samples = [500 + (1 if strip % 3 == 1 else -1 if strip % 3 == 2 else 0) for strip in range(128)]
        ways = [[0, 1, -1][strip % 3] for strip in range(128)]
        noises = [40 if strip % 2 else 20 for strip in range(128)]
        # 3 times 16 is 48: above 2 times 20, below 2 times 40; and 0 is below either.
        noise_ways = [1 if strip % 3 and not strip % 2 else -1 for strip in range(128)]
        given = ask_open(*in_hand(samples, card(0, noises=noises)), LEARN, told(0), told(1))
        self.assertEqual(given[4][1:129], [8000 + way for way in ways])
        self.assertEqual(given[4][129:], [noises[strip] + noise_ways[strip] for strip in range(128)])
        self.assertEqual(given[5], [0] + LEVELS + NOISES)

    def test_again_and_again(self):
        samples = changed(FLAT, {5: 501})
        given = ask_open(*in_hand(samples), LEARN, LEARN, LEARN, told(0), REST)
        self.assertEqual(given[-2][1 + 5], 8003)
        self.assertEqual(given[-1][1 + 5], 13)
        self.assertEqual(given[-2][129 + 5], 29)

    def test_by_the_card_as_it_is_now(self):
        calls = in_hand(FLAT) + [card(levels=changed(LEVELS, {3: 8001})), LEARN, told(0)]
        self.assertEqual(ask_open(*calls)[-1][1:129], LEVELS)


class LeftAlone(unittest.TestCase):
    def test_dead_strips(self):
        samples = changed(FLAT, {4: 503, 5: 503, 6: 400})
        levels, noises = learnt(samples, dead=[5, 6])
        self.assertEqual(levels, changed(LEVELS, {4: 8001}))
        self.assertEqual(noises, changed([31] * 128, {4: 33, 5: 32, 6: 32}))

    def test_a_chip_all_dead(self):
        levels, noises = learnt([510] * 32 + [500] * 96, dead=range(32))
        self.assertEqual(levels, LEVELS)
        self.assertEqual(noises, [32] * 32 + [31] * 96)

    def test_strips_of_a_cluster_that_is_found(self):
        samples = changed(FLAT, {8: 503, 9: 504, 10: 520, 11: 500, 12: 505, 13: 503})
        levels, noises = learnt(samples, dead=[11])
        self.assertEqual(levels, changed(LEVELS, {8: 8001, 13: 8001}))
        self.assertEqual(noises, changed([31] * 128, {8: 33, 9: 32, 10: 32, 11: 32, 12: 32, 13: 33}))

    def test_strips_of_a_cluster_too_wide(self):
        samples = changed(FLAT, {9: 504, 10: 520, 11: 504})
        calls = in_hand(samples, card(wide=2)) + [FOUND, LEARN, told(0)]
        given = ask_open(*calls)
        self.assertEqual(given[3], [0])
        self.assertEqual(given[-1][1:129], LEVELS)
        self.assertEqual(given[-1][129:], changed([31] * 128, {9: 32, 10: 32, 11: 32}))

    def test_lit_strips_of_no_cluster_move(self):
        samples = changed(FLAT, {9: 504, 10: 509})
        levels, noises = learnt(samples)
        self.assertEqual(levels, changed(LEVELS, {9: 8001, 10: 8001}))
        self.assertEqual(noises, changed([31] * 128, {9: 33, 10: 33}))


class AtOnce(unittest.TestCase):
    def test_all_by_what_is_seen_before_any_moves(self):
        # Strip 5's level is held, and its noise goes from 17 to 16, which would make it bright, and so strip 6
        # one of a cluster: yet strip 6 moves, as nothing was bright before.
        samples = changed([1022] * 128, {5: 1023})
        levels = changed([16362] * 128, {5: 16368, 6: 16356})
        calls = in_hand(samples, card(0, 10, 5, levels=levels, noises=[17] * 128))
        given = ask_open(*calls, REST, FOUND, LEARN, told(0), FOUND)
        self.assertEqual(given[3][1:9], [0, 0, 0, 0, 0, 10, 6, 0])
        self.assertEqual(given[4], [0])
        self.assertEqual(given[6][1:129], changed(levels, {6: 16357}))
        self.assertEqual(given[6][129:], [16] * 128)
        self.assertEqual(given[7][:3], [1, 5, 2])

    def test_the_noise_by_the_rest_before_the_level_moved(self):
        self.assertEqual(one(2, 3, high=4095, low=4095), (1, 0))
        self.assertEqual(one(-2, 3), (-1, 0))


if __name__ == "__main__":
    unittest.main()
