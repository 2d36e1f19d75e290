"""feed and counts: finding frames in bytes cut anyhow, the queue, what is lost and what is behind."""

import unittest

from helper import (
    COUNTS, NEXT, SAMPLES, ask_open, changed, crc32c, feed, frame, full_frame, last, picked_body,
)

RISING = [strip * 8 for strip in range(128)]
EMPTY = frame(2, 3, 5)


def counts(joined=0, lost=0, dropped=0, spoilt=0, wrong=0, behind=0):
    return [0, joined, lost, dropped, spoilt, wrong, behind]


class Sizes(unittest.TestCase):
    def test_outside(self):
        for size in (-1, 4097, -2147483648, 4294967295):
            self.assertEqual(ask_open([3, size], COUNTS), [[-2], counts()])

    def test_none_and_most(self):
        self.assertEqual(ask_open(feed([]), COUNTS), [[0], counts()])
        self.assertEqual(ask_open(feed([0] * 4096), COUNTS), [[0], counts(dropped=4096)])
        self.assertEqual(ask_open(feed([0] * 4082 + EMPTY), COUNTS), [[1], counts(1, dropped=4082)])

    def test_a_refusal_leaves_what_waits(self):
        given = ask_open(feed(EMPTY[:11]), [3, 4097], [3, -1], feed(EMPTY[11:]), COUNTS)
        self.assertEqual(given, [[0], [-2], [-2], [1], counts(1)])


class Frames(unittest.TestCase):
    def test_byte_by_byte_as_written(self):
        # The check value by which the helper's own sum is known to be CRC-32C.
        self.assertEqual(EMPTY[:10], [0xA5, 0x96, 2, 3, 5, 0, 0, 0, 0, 0])
        self.assertEqual(crc32c(b"123456789"), 0xE3069283)
        self.assertEqual(ask_open(feed(EMPTY), NEXT), [[1], [0, 2, 3, 5, 0]])

    def test_the_event_has_four_bytes_lowest_first(self):
        self.assertEqual(last(feed(frame(0, 3, 0x04030201)), NEXT), [0, 0, 3, 0x04030201, 0])
        self.assertEqual(last(feed(frame(0, 3, 2 ** 32 - 1)), NEXT), [0, 0, 3, 2 ** 32 - 1, 0])
        self.assertEqual(last(feed(frame(0, 3, 0)), NEXT), [0, 0, 3, 0, 0])

    def test_each_card(self):
        octets = sum([frame(number, 3, 1) for number in range(8)], [])
        given = ask_open(feed(octets), *[NEXT] * 8)
        self.assertEqual(given, [[8]] + [[7 - number, number, 3, 1, 0] for number in range(8)])

    def test_several_in_one_feed_and_in_order(self):
        octets = frame(1, 3, 4) + full_frame(2, 7, RISING) + frame(1, 1, 5, picked_body({3: 9}))
        given = ask_open(feed(octets), NEXT, NEXT, NEXT, NEXT, COUNTS)
        self.assertEqual(given, [[3], [2, 1, 3, 4, 0], [1, 2, 0, 7, 160], [0, 1, 1, 5, 18], [-3], counts(3)])

    def test_cut_in_two_anywhere(self):
        octets = full_frame(6, 3, RISING)
        for cut in range(len(octets) + 1):
            given = ask_open(feed(octets[:cut]), feed(octets[cut:]), NEXT, SAMPLES, COUNTS)
            self.assertEqual(given[0][0] + given[1][0], 1)
            self.assertEqual(given[1][0], 0 if cut == len(octets) else 1)
            self.assertEqual(given[2:], [[0, 6, 0, 3, 160], [0] + RISING, counts(1)])

    def test_byte_by_byte(self):
        octets = [0xA5] + EMPTY + [1] + EMPTY
        given = ask_open(*[feed([octet]) for octet in octets], COUNTS)
        joined = [0] * 14 + [1] + [0] * 14 + [1]
        self.assertEqual(given[:-1], [[number] for number in joined])
        self.assertEqual(given[-1], counts(2, dropped=2, behind=1))

    def test_nothing_more_of_a_feed_without_bytes(self):
        self.assertEqual(ask_open(feed(EMPTY[:13]), feed([]), feed(EMPTY[13:]), feed([])), [[0], [0], [1], [0]])


class Dropped(unittest.TestCase):
    def test_bytes_ahead_of_a_frame(self):
        self.assertEqual(ask_open(feed([0, 0x96, 255] + EMPTY), COUNTS), [[1], counts(1, dropped=3)])

    def test_a_mark_waits_for_its_second_byte(self):
        self.assertEqual(ask_open(feed([0xA5]), COUNTS, feed([0x95]), COUNTS),
                         [[0], counts(), [0], counts(dropped=2)])

    def test_the_mark_followed_by_a_mark(self):
        self.assertEqual(ask_open(feed([0xA5] + EMPTY), COUNTS), [[1], counts(1, dropped=1)])
        self.assertEqual(ask_open(feed([0xA5]), feed([0xA5]), COUNTS, feed(EMPTY[1:]), COUNTS),
                         [[0], [0], counts(dropped=1), [1], counts(1, dropped=1)])

    def test_a_wrong_head_waits_for_ten_bytes(self):
        for changes in ({2: 8}, {2: 255}, {3: 4}, {3: 255}, {8: 201}, {9: 1}, {8: 200, 9: 1}, {9: 255}):
            head = changed(EMPTY, changes)[:10]
            given = ask_open(feed(head[:9]), COUNTS, feed(head[9:]), COUNTS)
            self.assertEqual(given, [[0], counts(), [0], counts(dropped=10)], changes)

    def test_a_head_at_its_bounds_waits_for_the_whole_frame(self):
        for changes in ({2: 7}, {2: 0}, {3: 0}, {3: 3}, {8: 200}):
            head = changed(EMPTY, changes)[:10]
            self.assertEqual(ask_open(feed(head), COUNTS), [[0], counts()], changes)

    def test_a_body_of_two_hundred_bytes_waits_for_its_end(self):
        octets = frame(0, 0, 1, [0] * 200)
        given = ask_open(feed(octets[:213]), COUNTS, feed(octets[213:]), COUNTS)
        self.assertEqual(given, [[0], counts(), [0], counts(dropped=214, wrong=1)])

    def test_of_a_wrong_head_the_first_byte_alone_is_dropped(self):
        # A frame begins in the head's fifth byte.
        octets = [0xA5, 0x96, 8, 3] + EMPTY
        self.assertEqual(ask_open(feed(octets), COUNTS), [[1], counts(1, dropped=4)])


class Spoilt(unittest.TestCase):
    def test_any_bit_of_the_sum(self):
        for bit in range(32):
            octets = frame(1, 3, 5, (), 1 << bit)
            given = ask_open(feed(octets + [0]), COUNTS)
            self.assertEqual(given, [[0], counts(dropped=15, spoilt=1)], bit)

    def test_any_byte_that_is_summed(self):
        octets = frame(1, 0, 0x01010101, [1] * 160)
        for place in [2] + list(range(4, 8)) + list(range(10, 170)):
            given = ask_open(feed(changed(octets, {place: 0})), COUNTS)
            self.assertEqual(given, [[0], counts(dropped=174, spoilt=1)], place)

    def test_waits_for_the_last_byte(self):
        octets = frame(1, 3, 5, (), 1)
        given = ask_open(feed(octets[:13]), COUNTS, feed(octets[13:]), COUNTS)
        self.assertEqual(given, [[0], counts(), [0], counts(dropped=14, spoilt=1)])

    def test_a_frame_within_a_spoilt_ones_body(self):
        octets = frame(1, 0, 5, EMPTY + [0] * 146, 1)
        self.assertEqual(ask_open(feed(octets), COUNTS, NEXT),
                         [[1], counts(1, dropped=160, spoilt=1), [0, 2, 3, 5, 0]])

    def test_a_frame_that_begins_within_a_spoilt_one_and_ends_behind_it(self):
        octets = frame(1, 0, 5, [0] * 150 + EMPTY[:10], 0)[:170] + EMPTY[10:]
        self.assertEqual(ask_open(feed(octets), COUNTS), [[1], counts(1, dropped=160, spoilt=1)])
        longer = octets[:160] + full_frame(3, 1, RISING)
        self.assertEqual(ask_open(feed(longer[:174]), COUNTS, feed(longer[174:]), COUNTS),
                         [[0], counts(dropped=160, spoilt=1), [1], counts(1, dropped=160, spoilt=1)])

    def test_spoilt_and_wrong_is_spoilt(self):
        self.assertEqual(ask_open(feed(frame(1, 3, 5, [0], 1)), COUNTS), [[0], counts(dropped=15, spoilt=1)])


class Wrong(unittest.TestCase):
    def test_a_wrong_one_loses_its_first_byte_alone(self):
        octets = frame(1, 3, 5, EMPTY)
        self.assertEqual(ask_open(feed(octets), COUNTS, NEXT),
                         [[1], counts(1, dropped=14, wrong=1), [0, 2, 3, 5, 0]])

    def test_a_wrong_one_is_not_the_last_taken(self):
        octets = frame(2, 3, 9, [1]) + frame(2, 3, 8, (), 1) + EMPTY
        self.assertEqual(ask_open(feed(octets), COUNTS), [[1], counts(1, dropped=29, spoilt=1, wrong=1)])


class Queue(unittest.TestCase):
    def test_sixteen_and_the_seventeenth(self):
        octets = sum([frame(0, 3, event) for event in range(17)], [])
        self.assertEqual(ask_open(feed(octets[:-14]), COUNTS), [[16], counts(16)])
        self.assertEqual(ask_open(feed(octets), COUNTS), [[16], counts(16, 1)])
        given = ask_open(feed(octets), *[NEXT] * 17)
        self.assertEqual(given[1:17], [[15 - event, 0, 3, event, 0] for event in range(16)])
        self.assertEqual(given[17], [-3])

    def test_a_lost_one_is_not_counted_as_joined_but_taken_whole(self):
        octets = sum([frame(0, 3, event) for event in range(16)], [])
        given = ask_open(feed(octets), feed(full_frame(0, 16, RISING)), COUNTS, NEXT, feed(frame(0, 3, 17)), COUNTS)
        self.assertEqual(given, [[16], [0], counts(16, 1), [15, 0, 3, 0, 0], [1], counts(17, 1)])

    def test_the_one_in_hand_is_not_in_the_queue(self):
        octets = sum([frame(0, 3, event) for event in range(1, 17)], [])
        given = ask_open(feed(frame(0, 3, 0)), NEXT, feed(octets), COUNTS)
        self.assertEqual(given[2:], [[16], counts(17)])

    def test_spoilt_and_wrong_ones_are_not_lost(self):
        octets = sum([frame(0, 3, event) for event in range(16)], [])
        given = ask_open(feed(octets + frame(0, 3, 16, (), 1) + frame(0, 3, 16, [0])), COUNTS)
        self.assertEqual(given, [[16], counts(16, 0, 29, 1, 1)])


class Behind(unittest.TestCase):
    def check(self, frames, behind):
        self.assertEqual(last(feed(sum(frames, [])), COUNTS), counts(len(frames), behind=behind))

    def test_not_above_the_last_one(self):
        self.check([frame(0, 3, 0)], 0)
        self.check([frame(0, 3, 5), frame(0, 3, 6)], 0)
        self.check([frame(0, 3, 5), frame(0, 3, 5)], 1)
        self.check([frame(0, 3, 5), frame(0, 3, 4)], 1)
        self.check([frame(0, 3, 2 ** 32 - 1), frame(0, 3, 0)], 1)

    def test_the_last_one_also_if_it_was_behind_itself(self):
        self.check([frame(0, 3, 9), frame(0, 3, 3), frame(0, 3, 4)], 1)
        self.check([frame(0, 3, 9), frame(0, 3, 3), frame(0, 3, 3)], 2)

    def test_each_card_by_itself(self):
        self.check([frame(0, 3, 9), frame(1, 3, 3), frame(7, 3, 3), frame(1, 3, 4), frame(0, 3, 9)], 1)

    def test_over_several_feeds_and_when_it_was_taken_off_the_queue(self):
        given = ask_open(feed(frame(0, 3, 5)), NEXT, feed(frame(0, 3, 5)), COUNTS)
        self.assertEqual(given[-1], counts(2, behind=1))

    def test_a_lost_one_is_behind_and_one_behind_a_lost_one(self):
        octets = sum([frame(0, 3, event) for event in range(16)], [])
        self.assertEqual(last(feed(octets + frame(0, 3, 15)), COUNTS), counts(16, 1, behind=1))
        self.assertEqual(last(feed(octets + frame(0, 3, 50)), NEXT, feed(frame(0, 3, 50)), COUNTS),
                         counts(17, 1, behind=1))
        self.assertEqual(last(feed(octets + frame(0, 3, 50)), NEXT, feed(frame(0, 3, 51)), COUNTS), counts(17, 1))


if __name__ == "__main__":
    unittest.main()
