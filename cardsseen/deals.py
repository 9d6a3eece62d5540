"""Hands as numbers, and when four of them are a deal.

Card 13 s + r is of the suit s (clubs, diamonds, hearts, spades) and the rank r
(two to ace); a hand has it if it has the bit of value 2^(13 s + r).
"""

SUITS = 4
RANKS = 13
CARDS = 52
PLAYERS = 4


def holds(hand, card):
    return (hand >> card) & 1 == 1


def card_count(hand):
    count = 0
    rest = hand
    while rest > 0:
        rest = rest & (rest - 1)
        count += 1
    return count


def has_bit_above(hands):
    return any([(hand >> CARDS) > 0 for hand in hands])


def has_card_twice(hands):
    seen = 0
    for hand in hands:
        if seen & hand != 0:
            return True
        seen = seen | hand
    return False


def has_unequal_hands(hands):
    sizes = [card_count(hand) for hand in hands]
    return min(sizes) != max(sizes)


# 0 if the four hands are a deal, else the number of the first thing that is wrong.
def deal_fault(hands):
    if has_bit_above(hands):
        return 1
    if has_card_twice(hands):
        return 2
    if has_unequal_hands(hands):
        return 3
    return 0


def is_deal(hands):
    return deal_fault(hands) == 0
