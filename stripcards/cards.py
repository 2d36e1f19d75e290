"""The calls on a line, and what they answer."""

from stripcards.bits import BitReader
from stripcards.bodies import EMPTY, MOST_SAMPLE, PICKED, body_of, shortest_kind
from stripcards.frames import ALL_ONES, CARDS, frame_octets
from stripcards.line import Line
from stripcards.strips import LEAST_NOISE, MOST_LEVEL, MOST_NOISE, STRIPS, Card, cluster_told

OPEN = 1
CARD = 2
FEED = 3
NEXT = 4
SAMPLES = 5
REST = 6
FOUND = 7
LEARN = 8
TOLD = 9
COUNTS = 10
PACK = 11

MOST_FEED = 4096
MOST_TIMES = 4095
SHORTEST = -1
COUNT_END = 0x100000000

DONE = 0
NOT_AS_TOLD = -2
NONE_IN_HAND = -3
NOT_OF_THIS_KIND = -4
NOT_OPENED = -7


def within(number, least, most):
    return least <= number <= most


def all_within(numbers, least, most):
    return all([within(number, least, most) for number in numbers])


def is_card(number):
    return within(number, 0, CARDS - 1)


def set_card(line, numbers):
    high = numbers[1]
    low = numbers[2]
    wide = numbers[3]
    levels = numbers[20:148]
    noises = numbers[148:276]
    if not is_card(numbers[0]) or not within(low, 1, MOST_TIMES) or not within(high, low, MOST_TIMES):
        return [NOT_AS_TOLD]
    if not within(wide, 1, STRIPS) or not all_within(levels, 0, MOST_LEVEL):
        return [NOT_AS_TOLD]
    if not all_within(noises, LEAST_NOISE, MOST_NOISE):
        return [NOT_AS_TOLD]
    dead = BitReader(numbers[4:20]).take_each(STRIPS, 1)
    line.cards[numbers[0]] = Card(high, low, wide, dead, levels, noises)
    return [DONE]


def feed(line, numbers):
    if not within(numbers[0], 0, MOST_FEED):
        return [NOT_AS_TOLD]
    joined_before = line.joined
    line.feed(numbers[1:])
    return [line.joined - joined_before]


def take_next(line):
    if len(line.queue) == 0:
        return [NONE_IN_HAND]
    line.hand_over()
    frame = line.hand
    return [len(line.queue), frame.card, frame.kind, frame.event, len(frame.body)]


def tell_rests(line):
    card = line.hand_card()
    return [DONE] + card.rests(line.samples) + card.shifts(line.samples)


def tell_found(line):
    card = line.hand_card()
    rests = card.rests(line.samples)
    found = card.found(rests)
    told = [len(found)]
    for cluster in found:
        told.extend(cluster_told(cluster, rests))
    return told


def learn(line):
    line.hand_card().learn(line.samples)
    return [DONE]


def tell_card(line, numbers):
    if not is_card(numbers[0]):
        return [NOT_AS_TOLD]
    card = line.cards[numbers[0]]
    return [DONE] + card.levels + card.noises


def tell_counts(line):
    return [DONE] + [count % COUNT_END for count in line.counts()]


def pack(line, numbers):
    event = numbers[1]
    kind = numbers[2]
    samples = numbers[3:]
    if not is_card(numbers[0]) or not within(event, 0, ALL_ONES) or not within(kind, SHORTEST, EMPTY):
        return [NOT_AS_TOLD]
    if not all_within(samples, 0, MOST_SAMPLE):
        return [NOT_AS_TOLD]
    expected = line.cards[numbers[0]].expected()
    if kind == EMPTY and samples != expected:
        return [NOT_OF_THIS_KIND]
    if kind == SHORTEST:
        kind = shortest_kind(samples, expected)
    octets = frame_octets(numbers[0], kind, event, body_of(kind, samples, expected))
    return [len(octets)] + octets


def answer_of_hand(line, call):
    if line.hand is None:
        return [NONE_IN_HAND]
    if call == LEARN and line.hand.kind in (PICKED, EMPTY):
        return [NOT_OF_THIS_KIND]
    if call == SAMPLES:
        return [DONE] + line.samples
    if call == REST:
        return tell_rests(line)
    if call == FOUND:
        return tell_found(line)
    return learn(line)


def answer(line, call, numbers):
    if call == CARD:
        return set_card(line, numbers)
    if call == FEED:
        return feed(line, numbers)
    if call == NEXT:
        return take_next(line)
    if call == TOLD:
        return tell_card(line, numbers)
    if call == COUNTS:
        return tell_counts(line)
    if call == PACK:
        return pack(line, numbers)
    return answer_of_hand(line, call)


def answers(calls):
    told = []
    line = None
    place = 0
    while place < len(calls):
        size = calls[place + 1]
        call = calls[place + 2]
        numbers = calls[place + 3:place + 2 + size]
        place += 2 + size
        if call == OPEN:
            line = Line()
            given = [DONE]
        elif line is None:
            given = [NOT_OPENED]
        else:
            given = answer(line, call, numbers)
        told.append(len(given))
        told.extend(given)
    return told
