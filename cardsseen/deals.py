"""Hands as numbers, and when four of them are a deal.

Card 13 s + r is of the suit s (clubs, diamonds, hearts, spades) and the rank r
(two to ace); a hand has it if it has the bit of value 2^(13 s + r).
"""

SUITS = 4
RANKS = 13
CARDS = 52
PLAYERS = 4
# The rank of the lowest card that counts points.
JACK = 9
# The thirteen bits of a suit, moved down to the lowest.
WHOLE_SUIT = 8191


def holds(hand, card):
    return (hand >> card) & 1 == 1


def card_count(hand):
    count = 0
    rest = hand
    while rest > 0:
        rest = rest & (rest - 1)
        count += 1
    return count


def has_bit_above(hands):
    return any([(hand >> CARDS) > 0 for hand in hands])


def has_card_twice(hands):
    seen = 0
    for hand in hands:
        if seen & hand != 0:
            return True
        seen = seen | hand
    return False


def has_unequal_hands(hands):
    sizes = [card_count(hand) for hand in hands]
    return min(sizes) != max(sizes)


# 0 if the four hands are a deal, else the number of the first thing that is wrong.
def deal_fault(hands):
    if has_bit_above(hands):
        return 1
    if has_card_twice(hands):
        return 2
    if has_unequal_hands(hands):
        return 3
    return 0


def is_deal(hands):
    return deal_fault(hands) == 0


def is_full_deal(hands):
    return is_deal(hands) and card_count(hands[0]) == RANKS


# 4, 3, 2, 1 for each ace, king, queen, jack; no other bit is looked at.
def hand_points(hand):
    total = 0
    for suit in range(SUITS):
        for worth in range(1, 5):
            if holds(hand, RANKS * suit + JACK - 1 + worth):
                total += worth
    return total


# How many clubs, diamonds, hearts, spades; no other bit is looked at.
def suit_lengths(hand):
    return [card_count((hand >> (RANKS * suit)) & WHOLE_SUIT) for suit in range(SUITS)]
