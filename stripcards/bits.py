"""Bytes and the numbers of any width that lie in them, the lowest bit first."""


# Bit k of the whole is bit k of the bytes, so a number of any width can be cut out of it at once.
def whole_of(octets):
    whole = 0
    for octet in reversed(octets):
        whole = whole * 256 + octet
    return whole


def octets_of(whole, size):
    return [(whole >> (8 * place)) % 256 for place in range(size)]


def octets_to_hold(width):
    return (width + 7) // 8


# Each field is a pair, a number and its width, as a width may be more than its number needs.
def put_together(fields):
    whole = 0
    place = 0
    for number, width in fields:
        whole += number << place
        place += width
    return octets_of(whole, octets_to_hold(place))


# Behind the last byte it takes zeros, so that no taking has to look for the end: is_spent tells of that at last.
class BitReader:
    def __init__(self, octets):
        self.whole = whole_of(octets)
        self.size = len(octets)
        self.place = 0

    def take(self, width):
        number = (self.whole >> self.place) % (1 << width)
        self.place += width
        return number

    def take_each(self, how_many, width):
        return [self.take(width) for turn in range(how_many)]

    def is_spent(self):
        return self.size == octets_to_hold(self.place) and self.whole >> self.place == 0
