"""All that is held from one open to the next."""

from stripcards.bodies import samples_told
from stripcards.frames import CARDS, Frame, frame_size, has_right_sum
from stripcards.strips import card_at_first

QUEUE_ROOM = 16


class Line:
    def __init__(self):
        self.waiting = []
        self.queue = []
        self.hand = None
        self.samples = []
        self.cards = [card_at_first() for card in range(CARDS)]
        # Below every event, so that a card's first frame isn't behind.
        self.last_events = [-1] * CARDS
        self.joined = 0
        self.lost = 0
        self.dropped = 0
        self.spoilt = 0
        self.wrong = 0
        self.behind = 0

    def counts(self):
        return [self.joined, self.lost, self.dropped, self.spoilt, self.wrong, self.behind]

    def hand_card(self):
        return self.cards[self.hand.card]

    def samples_of(self, frame):
        return samples_told(frame.kind, frame.body, self.cards[frame.card].expected())

    def feed(self, octets):
        there = self.waiting + octets
        place = 0
        while place < len(there):
            size = frame_size(there, place)
            if size is None:
                break
            if size > 0 and self.takes(there[place:place + size]):
                place += size
            else:
                self.dropped += 1
                place += 1
        self.waiting = there[place:]

    # False where the frame is spoilt or wrong, as a frame may begin within its bytes then.
    def takes(self, octets):
        if not has_right_sum(octets):
            self.spoilt += 1
            return False
        frame = Frame(octets)
        if self.samples_of(frame) is None:
            self.wrong += 1
            return False
        self.file_frame(frame)
        return True

    def file_frame(self, frame):
        if frame.event <= self.last_events[frame.card]:
            self.behind += 1
        self.last_events[frame.card] = frame.event
        if len(self.queue) < QUEUE_ROOM:
            self.queue.append(frame)
            self.joined += 1
        else:
            self.lost += 1

    # The samples are kept and not read again, as the card's levels may move later.
    def hand_over(self):
        self.hand = self.queue.pop(0)
        self.samples = self.samples_of(self.hand)
