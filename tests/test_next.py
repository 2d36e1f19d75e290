"""next and samples: what is in hand, and that its samples are told once."""

import unittest

from helper import (
    FOUND, LEARN, NEXT, REST, SAMPLES, ask_open, card, feed, frame, full_frame, last, picked_body,
)

RISING = [strip * 8 for strip in range(128)]
FALLING = RISING[::-1]


class Next(unittest.TestCase):
    def test_the_first_of_the_queue_and_how_many_are_left(self):
        octets = full_frame(4, 1, RISING) + frame(5, 3, 2 ** 32 - 1) + frame(0, 1, 0, picked_body({0: 1, 1: 2}))
        given = ask_open(feed(octets), NEXT, NEXT, NEXT)
        self.assertEqual(given[1:], [[2, 4, 0, 1, 160], [1, 5, 3, 2 ** 32 - 1, 0], [0, 0, 1, 0, 19]])

    def test_an_empty_queue(self):
        self.assertEqual(ask_open(NEXT), [[-3]])

    def test_an_empty_queue_leaves_what_is_in_hand(self):
        told = [SAMPLES, REST, FOUND]
        given = ask_open(feed(full_frame(4, 1, RISING)), NEXT, *told, NEXT, NEXT, *told)
        self.assertEqual(given[2], [0] + RISING)
        self.assertEqual(given[5:7], [[-3], [-3]])
        self.assertEqual(given[7:], given[2:5])

    def test_the_next_takes_the_place_of_the_one_before(self):
        given = ask_open(feed(full_frame(4, 1, RISING) + full_frame(3, 1, FALLING)), NEXT, SAMPLES, NEXT, SAMPLES)
        self.assertEqual([given[2], given[4]], [[0] + RISING, [0] + FALLING])

    def test_frames_that_come_later_leave_what_is_in_hand(self):
        given = ask_open(feed(full_frame(4, 1, RISING)), NEXT, feed(full_frame(4, 2, FALLING)), SAMPLES)
        self.assertEqual(given[-1], [0] + RISING)


class Samples(unittest.TestCase):
    def test_none_in_hand(self):
        self.assertEqual(ask_open(feed(frame(0, 3, 1)), SAMPLES, REST, FOUND, LEARN)[1:], [[-3]] * 4)

    def test_by_the_levels_at_the_time_of_next(self):
        for kind, body in ((3, []), (1, [0] * 16)):
            octets = frame(0, kind, 1, body)
            given = last(card(levels=[160] * 128), feed(octets), card(levels=[320] * 128), NEXT, SAMPLES)
            self.assertEqual(given, [0] + [20] * 128)

    def test_they_stay_when_the_card_is_set(self):
        for kind, body in ((3, []), (1, picked_body({}))):
            octets = frame(0, kind, 1, body)
            given = ask_open(feed(octets), NEXT, card(levels=[320] * 128), SAMPLES, REST)
            self.assertEqual(given[3], [0] + [500] * 128)
            self.assertEqual(given[4], [0] + [0] * 128 + [8000 - 320] * 4)

    def test_they_stay_when_the_card_learns(self):
        given = ask_open(feed(full_frame(0, 1, RISING)), NEXT, LEARN, LEARN, SAMPLES)
        self.assertEqual(given[-1], [0] + RISING)

    def test_what_waits_in_the_queue_is_told_by_levels_that_were_learnt(self):
        # Strip 0 is below all others, so its level goes from 8000 to 7999: expected is 499 then, no more 500.
        samples = [499] + [500] * 127
        given = ask_open(feed(full_frame(0, 1, samples) + frame(0, 3, 2)), NEXT, LEARN, NEXT, SAMPLES)
        self.assertEqual(given[-2:], [[0, 0, 3, 2, 0], [0] + samples])


if __name__ == "__main__":
    unittest.main()
