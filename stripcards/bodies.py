"""The four kinds of body: 128 samples read off a body's bytes, and bodies made of samples."""

from stripcards.bits import BitReader, put_together
from stripcards.strips import STRIPS

FULL = 0
PICKED = 1
STEPPED = 2
EMPTY = 3

SAMPLE_BITS = 10
MOST_SAMPLE = 1023
BEFORE_FIRST = 512
GROUP_STRIPS = 16
WIDTH_BITS = 4
MOST_WIDTH = 11


def step_of(code):
    if code % 2 == 0:
        return code // 2
    return -((code + 1) // 2)


def code_of(step):
    if step >= 0:
        return 2 * step
    return -2 * step - 1


def read_picked(reader, expected):
    picked = reader.take_each(STRIPS, 1)
    samples = []
    for strip in range(STRIPS):
        if picked[strip] == 1:
            samples.append(reader.take(SAMPLE_BITS))
        else:
            samples.append(expected[strip])
    return samples


# None, in the place of samples, stands for a body that isn't as its kind says, here and in samples_told.
def read_stepped(reader):
    samples = []
    sample = BEFORE_FIRST
    width = 0
    for strip in range(STRIPS):
        if strip % GROUP_STRIPS == 0:
            width = reader.take(WIDTH_BITS)
        sample += step_of(reader.take(width))
        if width > MOST_WIDTH or sample < 0 or sample > MOST_SAMPLE:
            return None
        samples.append(sample)
    return samples


def read_by_kind(kind, reader, expected):
    if kind == FULL:
        return reader.take_each(STRIPS, SAMPLE_BITS)
    if kind == PICKED:
        return read_picked(reader, expected)
    if kind == STEPPED:
        return read_stepped(reader)
    return list(expected)


def samples_told(kind, body, expected):
    reader = BitReader(body)
    samples = read_by_kind(kind, reader, expected)
    return samples if reader.is_spent() else None


def full_fields(samples):
    return [(sample, SAMPLE_BITS) for sample in samples]


def picked_fields(samples, expected):
    picks = [(0 if sample == usual else 1, 1) for sample, usual in zip(samples, expected)]
    return picks + full_fields([sample for sample, usual in zip(samples, expected) if sample != usual])


def stepped_fields(samples):
    before = [BEFORE_FIRST] + samples
    codes = [code_of(samples[strip] - before[strip]) for strip in range(STRIPS)]
    fields = []
    for first in range(0, STRIPS, GROUP_STRIPS):
        group = codes[first:first + GROUP_STRIPS]
        width = max(group).bit_length()
        fields.append((width, WIDTH_BITS))
        fields.extend([(code, width) for code in group])
    return fields


def body_of(kind, samples, expected):
    if kind == FULL:
        return put_together(full_fields(samples))
    if kind == PICKED:
        return put_together(picked_fields(samples, expected))
    if kind == STEPPED:
        return put_together(stepped_fields(samples))
    return []


def shortest_kind(samples, expected):
    # No other kind's body is ever empty.
    if samples == expected:
        return EMPTY
    best = FULL
    for kind in (PICKED, STEPPED):
        if len(body_of(kind, samples, expected)) < len(body_of(best, samples, expected)):
            best = kind
    return best
