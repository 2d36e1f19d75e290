"""Frames, byte by byte: where one begins, whether its sum is right, its parts, and how one is made."""

from stripcards.bits import octets_of, whole_of
from stripcards.bodies import EMPTY

CARDS = 8
MARK_FIRST = 0xA5
MARK_SECOND = 0x96
MARK_SIZE = 2
HEAD_SIZE = 10
SUM_SIZE = 4
MOST_BODY = 200
SUM_TERMS = 0x82F63B78
ALL_ONES = 0xFFFFFFFF


def crc_of(octets):
    left = ALL_ONES
    for octet in octets:
        # A bit counts only once it meets the lowest one, so a byte's eight can be put in ahead of their turns.
        left = left ^ octet
        for turn in range(8):
            if left % 2 == 1:
                left = (left >> 1) ^ SUM_TERMS
            else:
                left = left >> 1
    return left ^ ALL_ONES


# 0 if no frame begins there, None as long as that isn't clear or the frame isn't all there.
def frame_size(octets, place):
    there = len(octets) - place
    if octets[place] != MARK_FIRST or (there > 1 and octets[place + 1] != MARK_SECOND):
        return 0
    if there < HEAD_SIZE:
        return None
    body_size = whole_of(octets[place + 8:place + HEAD_SIZE])
    if octets[place + 2] >= CARDS or octets[place + 3] > EMPTY or body_size > MOST_BODY:
        return 0
    size = HEAD_SIZE + body_size + SUM_SIZE
    return size if size <= there else None


def has_right_sum(octets):
    body_end = len(octets) - SUM_SIZE
    return crc_of(octets[MARK_SIZE:body_end]) == whole_of(octets[body_end:])


def frame_octets(card, kind, event, body):
    summed = [card, kind] + octets_of(event, 4) + octets_of(len(body), 2) + body
    return [MARK_FIRST, MARK_SECOND] + summed + octets_of(crc_of(summed), SUM_SIZE)


class Frame:
    def __init__(self, octets):
        self.card = octets[2]
        self.kind = octets[3]
        self.event = whole_of(octets[4:8])
        self.body = octets[HEAD_SIZE:len(octets) - SUM_SIZE]
