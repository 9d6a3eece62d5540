"""Best play: how many tricks side 0 gets if all play their best, and with which cards."""

from cardsseen.deals import PLAYERS
from cardsseen.rules import playable_cards, player_to_play, trick_winner

SIDES = 2


def is_of_side_0(player):
    return player % SIDES == 0


# The worth of what comes when this card is played now, a trick that ends with it counted.
def worth_after(strain, leader, hands, trick, card):
    left = list(hands)
    left[player_to_play(leader, trick)] -= 1 << card
    played = trick + [card]
    if len(played) < PLAYERS:
        return worth(strain, leader, left, played)
    taker = trick_winner(strain, leader, played)
    won = 1 if is_of_side_0(taker) else 0
    return won + worth(strain, taker, left, [])


# What comes of each card in turn.
def worths_after(strain, leader, hands, trick, cards):
    return [worth_after(strain, leader, hands, trick, card) for card in cards]


# Of what may come, what is best for the side of who is to play.
def best_of(player, worths):
    return max(worths) if is_of_side_0(player) else min(worths)


# How many of the tricks still to come side 0 gets. Every way to play on is gone through, as
# deep as there are cards, so this is for few cards alone.
def worth(strain, leader, hands, trick):
    cards = playable_cards(leader, hands, trick)
    # Of a position, who is to play has no cards only if nobody has.
    if len(cards) == 0:
        return 0
    return best_of(player_to_play(leader, trick), worths_after(strain, leader, hands, trick, cards))


# All cards, rising, that may be played now and keep the worth.
def best_cards(strain, leader, hands, trick):
    cards = playable_cards(leader, hands, trick)
    if len(cards) == 0:
        return []
    worths = worths_after(strain, leader, hands, trick, cards)
    kept = best_of(player_to_play(leader, trick), worths)
    return [card for card, after in zip(cards, worths) if after == kept]
