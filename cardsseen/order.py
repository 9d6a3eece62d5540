"""Full deals in order: by who has card 51, then card 50 and so on down, the lower player first."""

from cardsseen.deals import CARDS, PLAYERS, RANKS, holds

# 52! / 13!^4
FULL_DEALS = 53644737765488792839237440000


def owner_of(card, hands):
    return [holds(hand, card) for hand in hands].index(True)


# In how many of the ways to deal this card and those below it a player with this room gets
# it: the part that his room is of all room, so the division leaves no rest.
def ways_with_owner(ways, room, card):
    return ways * room // (card + 1)


# How many full deals come before this one.
def deals_before(hands):
    room = [RANKS] * PLAYERS
    ways = FULL_DEALS
    before = 0
    for card in range(CARDS - 1, -1, -1):
        owner = owner_of(card, hands)
        for player in range(owner):
            before += ways_with_owner(ways, room[player], card)
        ways = ways_with_owner(ways, room[owner], card)
        room[owner] -= 1
    return before


# The hands of the full deal before which n others come, n being below FULL_DEALS.
def deal_after(n):
    room = [RANKS] * PLAYERS
    ways = FULL_DEALS
    rest = n
    hands = [0] * PLAYERS
    for card in range(CARDS - 1, -1, -1):
        owner = 0
        # The four players' ways come to all of them, and rest is below that: so an owner
        # is found.
        while rest >= ways_with_owner(ways, room[owner], card):
            rest -= ways_with_owner(ways, room[owner], card)
            owner += 1
        hands[owner] |= 1 << card
        ways = ways_with_owner(ways, room[owner], card)
        room[owner] -= 1
    return hands
