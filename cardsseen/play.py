"""The calls. Each answers one list: 0 and what was asked for, or a refusal.

The refusals: -1 an argument that is out of bounds, -2 and a place where a text
goes wrong, -3 hands that are not what the call needs.
"""

from cardsseen.deals import PLAYERS, deal_fault, hand_points, is_deal, is_full_deal, suit_lengths
from cardsseen.order import deals_before
from cardsseen.texts import deal_bytes, read_deal


def fault(hands):
    if len(hands) != PLAYERS:
        return [-1]
    return [0, deal_fault(hands)]


def read(text):
    return read_deal(text)


def write(first, hands):
    if len(hands) != PLAYERS or first >= PLAYERS:
        return [-1]
    if not is_deal(hands):
        return [-3]
    return [0] + deal_bytes(first, hands)


def points(hands):
    if len(hands) != PLAYERS:
        return [-1]
    return [0] + [hand_points(hand) for hand in hands]


def shape(p, hands):
    if len(hands) != PLAYERS or p >= PLAYERS:
        return [-1]
    return [0] + suit_lengths(hands[p])


def number(hands):
    if len(hands) != PLAYERS:
        return [-1]
    if not is_full_deal(hands):
        return [-3]
    return [0, deals_before(hands)]
