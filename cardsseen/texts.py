"""A deal's text, as bytes: written from hands, and read into hands."""

from cardsseen.deals import CARDS, PLAYERS, RANKS, SUITS, card_count, holds

# The letters N E S W, by player.
PLAYER_BYTES = (78, 69, 83, 87)
# The letters 2 3 4 5 6 7 8 9 T J Q K A, by rank.
RANK_BYTES = (50, 51, 52, 53, 54, 55, 56, 57, 84, 74, 81, 75, 65)
COLON = 58
POINT = 46
BLANK = 32


def hand_bytes(hand):
    row = []
    for suit in range(SUITS - 1, -1, -1):
        for rank in range(RANKS - 1, -1, -1):
            if holds(hand, RANKS * suit + rank):
                row.append(RANK_BYTES[rank])
        if suit > 0:
            row.append(POINT)
    return row


def deal_bytes(first, hands):
    row = [PLAYER_BYTES[first], COLON]
    for step in range(PLAYERS):
        if step > 0:
            row.append(BLANK)
        row.extend(hand_bytes(hands[(first + step) % PLAYERS]))
    return row


# How many bytes of a deal's head, a player's letter and a colon, the text begins with.
def head_length(text):
    if len(text) < 1 or text[0] not in PLAYER_BYTES:
        return 0
    if len(text) < 2 or text[1] != COLON:
        return 1
    return 2


# Reads the four hands byte by byte, as long as they can still become a deal. A hand's
# text goes through the cards from 51 down, so what may still come in it are the cards
# below one limit.
class HandsReader:
    def __init__(self, first):
        self.hands = [0] * PLAYERS
        self.player = first
        self.ended = 0
        # How many cards each hand has: the first hand settles it when it ends.
        self.size = RANKS
        self.used = 0
        self.start_hand()

    def start_hand(self):
        self.suit = SUITS - 1
        self.limit = CARDS
        self.taken = 0

    # False if no bytes behind this one, whatever they are, could make a deal's text.
    def take(self, byte):
        if byte == POINT:
            return self.take_point()
        if byte == BLANK:
            return self.take_blank()
        if byte in RANK_BYTES:
            return self.take_card(RANKS * self.suit + RANK_BYTES.index(byte))
        return False

    def take_point(self):
        if self.suit == 0:
            return False
        self.limit = RANKS * self.suit
        self.suit -= 1
        return self.can_be_filled()

    def take_card(self, card):
        if card >= self.limit or holds(self.used, card):
            return False
        bit = 1 << card
        self.hands[self.player] |= bit
        self.used |= bit
        self.limit = card
        self.taken += 1
        return self.can_be_filled()

    def take_blank(self):
        if self.ended == PLAYERS - 1 or not self.hand_may_end():
            return False
        self.size = self.taken
        self.ended += 1
        self.player = (self.player + 1) % PLAYERS
        self.start_hand()
        return True

    def can_be_filled(self):
        if self.ended == 0:
            # Up to 13 cards, there are as many left for each of the others.
            return self.taken <= RANKS
        missing = self.size - self.taken
        below = (1 << self.limit) - 1
        return 0 <= missing <= card_count(below & ~self.used)

    def hand_may_end(self):
        return self.suit == 0 and (self.ended == 0 or self.taken == self.size)

    def is_complete(self):
        return self.ended == PLAYERS - 1 and self.hand_may_end()


# The answer of the call read: 0 and the hands, or -2 and the place of the fault.
def read_deal(text):
    start = head_length(text)
    if start < 2:
        return [-2, start]
    reader = HandsReader(PLAYER_BYTES.index(text[0]))
    for place in range(start, len(text)):
        if not reader.take(text[place]):
            return [-2, place]
    if not reader.is_complete():
        return [-2, len(text)]
    return [0] + reader.hands
