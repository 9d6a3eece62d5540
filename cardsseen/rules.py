"""The rules of tricks: what a position is, whose turn it is, what may be played, who wins."""

from cardsseen.deals import CARDS, PLAYERS, RANKS, WHOLE_SUIT, holds, is_deal

SIDES = 2
STRAINS = 5
# The strain with which no suit is trumps; the lower ones are suits.
NO_TRUMPS = 4


# North and south are side 0, east and west side 1.
def side_of(player):
    return player % SIDES


def suit_of(card):
    return card // RANKS


def cards_of_suit(hand, suit):
    return hand & (WHOLE_SUIT << (RANKS * suit))


# The cards of a hand, rising.
def cards_in(hand):
    cards = []
    rest = hand
    while rest > 0:
        lowest = rest & -rest
        cards.append(lowest.bit_length() - 1)
        rest -= lowest
    return cards


# Who plays at this place of a trick, the leader's being 0.
def player_at(leader, place):
    return (leader + place) % PLAYERS


def player_to_play(leader, trick):
    return player_at(leader, len(trick))


def are_different_cards(cards):
    return all([card < CARDS for card in cards]) and len(set(cards)) == len(cards)


def are_in_no_hand(cards, hands):
    held = hands[0] | hands[1] | hands[2] | hands[3]
    return not any([holds(held, card) for card in cards])


# The hands as they were before the trick began.
def hands_with_trick_back(leader, hands, trick):
    before = list(hands)
    for place, card in enumerate(trick):
        before[player_at(leader, place)] |= 1 << card
    return before


# Nobody has a card left of the suit led who played another suit.
def all_followed(leader, hands, trick):
    for place in range(1, len(trick)):
        led = suit_of(trick[0])
        if suit_of(trick[place]) != led and cards_of_suit(hands[player_at(leader, place)], led) != 0:
            return False
    return True


# The hands are four; all else that makes a position is looked at here.
def is_position(strain, leader, hands, trick):
    if strain > NO_TRUMPS or leader >= PLAYERS or len(trick) >= PLAYERS:
        return False
    if not are_different_cards(trick) or not are_in_no_hand(trick, hands):
        return False
    return is_deal(hands_with_trick_back(leader, hands, trick)) and all_followed(leader, hands, trick)


# The cards that may be played now, rising.
def playable_cards(leader, hands, trick):
    hand = hands[player_to_play(leader, trick)]
    if len(trick) > 0:
        following = cards_of_suit(hand, suit_of(trick[0]))
        if following != 0:
            return cards_in(following)
    return cards_in(hand)


# How high a card is in a trick: trumps above the suit led, the other suits below every card of
# these.
def height(strain, led, card):
    suit = suit_of(card)
    if suit == strain:
        return RANKS + card % RANKS
    if suit == led:
        return card % RANKS
    return -1


def trick_winner(strain, leader, cards):
    led = suit_of(cards[0])
    heights = [height(strain, led, card) for card in cards]
    return player_at(leader, heights.index(max(heights)))
