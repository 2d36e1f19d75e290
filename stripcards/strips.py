"""A card's settings and strips, and what they make of a frame's samples."""

STRIPS = 128
CHIP_STRIPS = 32
UNIT = 16
MIDDLE_UNIT = 64
MOST_LEVEL = 16368
LEAST_NOISE = 1
MOST_NOISE = 4095


def moved_by_one(number, way, least, most):
    if way > 0:
        return min(number + 1, most)
    if way < 0:
        return max(number - 1, least)
    return number


# A half more, rounded down, is the nearest whole number, and of two as near the greater.
def rounded(number, divisor):
    return (2 * number + divisor) // (2 * divisor)


# A cluster's sum is above 0, as every lit strip's rest is: low and noise are at least 1.
def cluster_told(cluster, rests):
    total = sum([rests[strip] for strip in cluster])
    weighed = sum([strip * rests[strip] for strip in cluster])
    return [cluster[0], len(cluster), total, rounded(MIDDLE_UNIT * weighed, total)]


class Card:
    def __init__(self, high, low, wide, dead, levels, noises):
        self.high = high
        self.low = low
        self.wide = wide
        self.dead = dead
        self.levels = levels
        self.noises = noises

    def expected(self):
        return [level // UNIT for level in self.levels]

    def above(self, samples, strip):
        return UNIT * samples[strip] - self.levels[strip]

    def shift(self, samples, first):
        alive = [strip for strip in range(first, first + CHIP_STRIPS) if self.dead[strip] == 0]
        if len(alive) == 0:
            return 0
        ordered = sorted([self.above(samples, strip) for strip in alive])
        return ordered[(len(ordered) - 1) // 2]

    def shifts(self, samples):
        return [self.shift(samples, first) for first in range(0, STRIPS, CHIP_STRIPS)]

    def rests(self, samples):
        shifts = self.shifts(samples)
        rests = []
        for strip in range(STRIPS):
            if self.dead[strip] == 0:
                rests.append(self.above(samples, strip) - shifts[strip // CHIP_STRIPS])
            else:
                rests.append(0)
        return rests

    def passes(self, rests, strip, times):
        return self.dead[strip] == 0 and UNIT * rests[strip] >= times * self.noises[strip]

    def is_joined(self, before, strip):
        return strip == before + 1 or (strip == before + 2 and self.dead[before + 1] == 1)

    # A row holds the dead strips within it too, as they count for how wide it is.
    def lit_rows(self, rests):
        rows = []
        for strip in range(STRIPS):
            if self.passes(rests, strip, self.low):
                if len(rows) > 0 and self.is_joined(rows[-1][-1], strip):
                    rows[-1].extend(list(range(rows[-1][-1] + 1, strip + 1)))
                else:
                    rows.append([strip])
        return rows

    def has_bright(self, rests, row):
        return any([self.passes(rests, strip, self.high) for strip in row])

    # Those too wide are among them, as their strips don't learn either.
    def clusters(self, rests):
        return [row for row in self.lit_rows(rests) if self.has_bright(rests, row)]

    def found(self, rests):
        return [cluster for cluster in self.clusters(rests) if len(cluster) <= self.wide]

    def learn(self, samples):
        rests = self.rests(samples)
        still = list(self.dead)
        for cluster in self.clusters(rests):
            for strip in cluster:
                still[strip] = 1
        for strip in range(STRIPS):
            if still[strip] == 0:
                excess = 3 * abs(rests[strip]) - 2 * self.noises[strip]
                self.levels[strip] = moved_by_one(self.levels[strip], rests[strip], 0, MOST_LEVEL)
                self.noises[strip] = moved_by_one(self.noises[strip], excess, LEAST_NOISE, MOST_NOISE)


def card_at_first():
    return Card(80, 32, 16, [0] * STRIPS, [8000] * STRIPS, [32] * STRIPS)
