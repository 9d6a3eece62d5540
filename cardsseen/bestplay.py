"""Best play: how many tricks each side gets if all play their best, and with which cards."""

from cardsseen.deals import PLAYERS, card_count
from cardsseen.rules import STRAINS, playable_cards, player_at, player_to_play, side_of, trick_winner


def is_of_side_0(player):
    return side_of(player) == 0


# The hands when this card has been played now.
def hands_after(leader, hands, trick, card):
    left = list(hands)
    left[player_to_play(leader, trick)] -= 1 << card
    return left


# The worth of what comes when this card is played now, a trick that ends with it counted.
def worth_after(strain, leader, hands, trick, card):
    left = hands_after(leader, hands, trick, card)
    played = trick + [card]
    if len(played) < PLAYERS:
        return worth(strain, leader, left, played)
    taker = trick_winner(strain, leader, played)
    won = 1 if is_of_side_0(taker) else 0
    return won + worth(strain, taker, left, [])


# What comes of each card in turn.
def worths_after(strain, leader, hands, trick, cards):
    return [worth_after(strain, leader, hands, trick, card) for card in cards]


# Of what may come, what is best for the side of who is to play.
def best_of(player, worths):
    return max(worths) if is_of_side_0(player) else min(worths)


# How many of the tricks still to come side 0 gets. Every way to play on is gone through, as
# deep as there are cards, so this is for few cards alone.
def worth(strain, leader, hands, trick):
    cards = playable_cards(leader, hands, trick)
    # Of a position, who is to play has no cards only if nobody has.
    if len(cards) == 0:
        return 0
    return best_of(player_to_play(leader, trick), worths_after(strain, leader, hands, trick, cards))


# All cards, rising, that may be played now and keep the worth.
def best_cards(strain, leader, hands, trick):
    cards = playable_cards(leader, hands, trick)
    if len(cards) == 0:
        return []
    worths = worths_after(strain, leader, hands, trick, cards)
    kept = best_of(player_to_play(leader, trick), worths)
    return [card for card, after in zip(cards, worths) if after == kept]


# The cards played from here to the end, always the least that keeps the worth.
def best_line(strain, leader, hands, trick):
    cards = []
    left = list(hands)
    leading = leader
    played = list(trick)
    while max(left) > 0:
        card = best_cards(strain, leading, left, played)[0]
        cards.append(card)
        left = hands_after(leading, left, played, card)
        played.append(card)
        if len(played) == PLAYERS:
            leading = trick_winner(strain, leading, played)
            played = []
    return cards


# How many tricks the player's side gets if the next player leads.
def tricks_of_side(strain, player, hands):
    won = worth(strain, player_at(player, 1), hands, [])
    return won if is_of_side_0(player) else card_count(hands[player]) - won


# For each strain, the tricks of each player's side.
def tricks_by_strain(hands):
    told = []
    for strain in range(STRAINS):
        told.extend([tricks_of_side(strain, player, hands) for player in range(PLAYERS)])
    return told
