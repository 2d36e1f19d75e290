"""What the tests share: calls in the form they are handed in, and frames made apart from the program."""

from stripcards.cards import answers

OPEN = [1]
NEXT = [4]
SAMPLES = [5]
REST = [6]
FOUND = [7]
LEARN = [8]
COUNTS = [10]

LEVELS = [8000] * 128
NOISES = [32] * 128


def card(number=0, high=80, low=32, wide=16, dead=(), levels=None, noises=None):
    octets = [0] * 16
    for strip in dead:
        octets[strip // 8] |= 1 << (strip % 8)
    return [2, number, high, low, wide] + octets + list(levels or LEVELS) + list(noises or NOISES)


def feed(octets):
    return [3, len(octets)] + list(octets)


def told(number):
    return [9, number]


def pack(number, event, kind, samples):
    return [11, number, event, kind] + list(samples)


def flat(calls):
    numbers = []
    for call in calls:
        numbers += [0, len(call)] + call
    return numbers


def split(numbers):
    lists = []
    place = 0
    while place < len(numbers):
        size = numbers[place]
        lists.append(numbers[place + 1:place + 1 + size])
        assert size >= 1 and len(lists[-1]) == size, "an answer is shorter than it says"
        place += 1 + size
    return lists


def ask(*calls):
    """The answers to some calls on a new line, a list each."""
    lists = split(answers(flat(calls)))
    assert len(lists) == len(calls), "not one answer for each call"
    return lists


def ask_open(*calls):
    """The same behind an open, whose answer is left out."""
    return ask(OPEN, *calls)[1:]


def last(*calls):
    return ask_open(*calls)[-1]


def changed(row, changes):
    """A copy of the row with other numbers at some places."""
    copy = list(row)
    for place, number in changes.items():
        copy[place] = number
    return copy


def make_table():
    table = []
    for number in range(256):
        for _ in range(8):
            number = (number >> 1) ^ (0x82F63B78 if number & 1 else 0)
        table.append(number)
    return table


TABLE = make_table()


def crc32c(octets):
    number = 0xFFFFFFFF
    for octet in octets:
        number = (number >> 8) ^ TABLE[(number ^ octet) & 0xFF]
    return number ^ 0xFFFFFFFF


def frame(number, kind, event, body=(), turned=0):
    """A frame's bytes; turned is put on its sum bit by bit, so that any but 0 spoils it."""
    inner = bytes([number, kind]) + event.to_bytes(4, "little") + len(body).to_bytes(2, "little") + bytes(body)
    return list(b"\xA5\x96" + inner + (crc32c(inner) ^ turned).to_bytes(4, "little"))


def bits_to_octets(bits):
    """The bytes of a text of 0s and 1s, the first sign being bit 0."""
    bits += "0" * (-len(bits) % 8)
    return [int(bits[k:k + 8][::-1], 2) for k in range(0, len(bits), 8)]


def number_bits(number, width):
    return format(number, "b").zfill(width)[::-1] if width else ""


def full_body(samples):
    return bits_to_octets("".join(number_bits(sample, 10) for sample in samples))


def picked_bits(picked):
    """The bits of a body of kind 1 that tells the samples of a dict, by strips."""
    marks = "".join("1" if strip in picked else "0" for strip in range(128))
    return marks + "".join(number_bits(picked[strip], 10) for strip in sorted(picked))


def picked_body(picked):
    return bits_to_octets(picked_bits(picked))


def stepped_bits(groups):
    """The bits of a body of kind 2 of eight groups, each w and its sixteen numbers z."""
    return "".join(
        number_bits(width, 4) + "".join(number_bits(z, width) for z in codes) for width, codes in groups
    )


def stepped_body(groups):
    return bits_to_octets(stepped_bits(groups))


FLAT_GROUP = (0, [0] * 16)


def full_frame(number, event, samples):
    return frame(number, 0, event, full_body(samples))


def in_hand(samples, *settings):
    """Calls that set cards, then bring a frame of kind 0 of card 0 in hand."""
    return list(settings) + [feed(full_frame(0, 1, samples)), NEXT]
