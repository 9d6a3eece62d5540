"""Full deals in order: by who has card 51, then card 50 and so on down, the lower player first."""

from cardsseen.deals import CARDS, PLAYERS, RANKS, holds

# 52! / 13!^4
FULL_DEALS = 53644737765488792839237440000


def owner_of(card, hands):
    return [holds(hand, card) for hand in hands].index(True)


# How many full deals come before this one.
def deals_before(hands):
    room = [RANKS] * PLAYERS
    ways = FULL_DEALS
    before = 0
    for card in range(CARDS - 1, -1, -1):
        owner = owner_of(card, hands)
        # Of the ways to deal the cards left, the part in which a player gets this one is
        # the part that his room is of all room: so these divisions leave no rest.
        for player in range(owner):
            before += ways * room[player] // (card + 1)
        ways = ways * room[owner] // (card + 1)
        room[owner] -= 1
    return before
