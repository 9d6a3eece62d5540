"""The calls. Each answers one list: 0 and what was asked for, or a refusal.

The refusals: -1 an argument that is out of bounds, -2 and a place where a text
or an auction goes wrong, -3 hands that are not what the call needs, or a number
of no deal, -9 more cards than best play is told for.
"""

from cardsseen.auction import outcome_of_calls
from cardsseen.bestplay import best_cards, best_line, tricks_by_strain, worth
from cardsseen.contracts import contract_score, is_contract
from cardsseen.deals import PLAYERS, RANKS, card_count, deal_fault, hand_points, is_deal, is_full_deal, suit_lengths
from cardsseen.order import FULL_DEALS, deal_after, deals_before
from cardsseen.rules import NO_TRUMPS, are_different_cards, hands_with_trick_back, is_position
from cardsseen.rules import playable_cards, player_to_play, trick_winner
from cardsseen.texts import deal_bytes, read_deal

# Best play is told for at most so many cards a hand.
MOST_CARDS = 3


def fault(hands):
    if len(hands) != PLAYERS:
        return [-1]
    return [0, deal_fault(hands)]


def read(text):
    return read_deal(text)


def write(first, hands):
    if len(hands) != PLAYERS or first >= PLAYERS:
        return [-1]
    if not is_deal(hands):
        return [-3]
    return [0] + deal_bytes(first, hands)


def points(hands):
    if len(hands) != PLAYERS:
        return [-1]
    return [0] + [hand_points(hand) for hand in hands]


def shape(p, hands):
    if len(hands) != PLAYERS or p >= PLAYERS:
        return [-1]
    return [0] + suit_lengths(hands[p])


def number(hands):
    if len(hands) != PLAYERS:
        return [-1]
    if not is_full_deal(hands):
        return [-3]
    return [0, deals_before(hands)]


def deal(n):
    if n >= FULL_DEALS:
        return [-3]
    return [0] + deal_after(n)


# The refusal that stands against a position, 0 if none does.
def position_refusal(strain, leader, hands, trick):
    if len(hands) != PLAYERS:
        return -1
    if not is_position(strain, leader, hands, trick):
        return -3
    return 0


def turn(strain, leader, hands, trick):
    refusal = position_refusal(strain, leader, hands, trick)
    if refusal != 0:
        return [refusal]
    return [0, player_to_play(leader, trick)]


def plays(strain, leader, hands, trick):
    refusal = position_refusal(strain, leader, hands, trick)
    if refusal != 0:
        return [refusal]
    return [0] + playable_cards(leader, hands, trick)


def winner(strain, leader, cards):
    if strain > NO_TRUMPS or leader >= PLAYERS or len(cards) != PLAYERS or not are_different_cards(cards):
        return [-1]
    return [0, trick_winner(strain, leader, cards)]


# The refusal that stands against telling best play from a position, 0 if none does.
def best_play_refusal(strain, leader, hands, trick):
    refusal = position_refusal(strain, leader, hands, trick)
    if refusal != 0:
        return refusal
    if card_count(hands_with_trick_back(leader, hands, trick)[0]) > MOST_CARDS:
        return -9
    return 0


def tricks(strain, leader, hands, trick):
    refusal = best_play_refusal(strain, leader, hands, trick)
    if refusal != 0:
        return [refusal]
    return [0, worth(strain, leader, hands, trick)]


def best(strain, leader, hands, trick):
    refusal = best_play_refusal(strain, leader, hands, trick)
    if refusal != 0:
        return [refusal]
    return [0] + best_cards(strain, leader, hands, trick)


def line(strain, leader, hands, trick):
    refusal = best_play_refusal(strain, leader, hands, trick)
    if refusal != 0:
        return [refusal]
    return [0] + best_line(strain, leader, hands, trick)


def table(hands):
    # With no trick begun, a deal is a position whatever the strain and the leader are.
    refusal = best_play_refusal(NO_TRUMPS, 0, hands, [])
    if refusal != 0:
        return [refusal]
    return [0] + tricks_by_strain(hands)


def score(level, strain, doubled, vul, tricks):
    if not is_contract(level, strain, doubled, vul) or tricks > RANKS:
        return [-1]
    return [0, contract_score(level, strain, doubled, vul, tricks)]


def bids(dealer, calls):
    if dealer >= PLAYERS:
        return [-1]
    return outcome_of_calls(dealer, calls)
