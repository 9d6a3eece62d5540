"""What a contract is worth to the side that plays it.

Doubled is 0, 1 (doubled) or 2 (redoubled); vul is 0 or 1. Of two numbers in brackets the first is
for vul 0, the second for vul 1.
"""

from cardsseen.rules import NO_TRUMPS

LEVELS = 7
REDOUBLED = 2
# The strains below this one, clubs and diamonds, count less.
FIRST_HIGH_SUIT = 2
# Needed are so many tricks and the level.
BOOK = 6
# From so many points for the tricks bid on, the contract is a game.
GAME = 100


def is_contract(level, strain, doubled, vul):
    return 1 <= level and level <= LEVELS and strain <= NO_TRUMPS and doubled <= REDOUBLED and vul <= 1


def points_for_trick(strain):
    return 20 if strain < FIRST_HIGH_SUIT else 30


def points_bid(level, strain, doubled):
    first = 10 if strain == NO_TRUMPS else 0
    return (points_for_trick(strain) * level + first) * (1, 2, 4)[doubled]


def game_points(bid, vul):
    return (300, 500)[vul] if bid >= GAME else 50


def slam_points(level, vul):
    if level == LEVELS - 1:
        return (500, 750)[vul]
    if level == LEVELS:
        return (1000, 1500)[vul]
    return 0


def points_above(strain, doubled, vul, above):
    return above * (points_for_trick(strain) if doubled == 0 else (100, 200)[vul] * doubled)


def points_made(level, strain, doubled, vul, above):
    bid = points_bid(level, strain, doubled)
    reward = game_points(bid, vul) + slam_points(level, vul) + 50 * doubled
    return bid + reward + points_above(strain, doubled, vul, above)


# What the trick at this place among those that are missing costs when doubled, the first's being 0.
def doubled_cost(place, vul):
    costs = (100, 200, 200) if vul == 0 else (200,)
    return costs[place] if place < len(costs) else 300


def cost_of_missing(doubled, vul, missing):
    if doubled == 0:
        return (50, 100)[vul] * missing
    return doubled * sum([doubled_cost(place, vul) for place in range(missing)])


def contract_score(level, strain, doubled, vul, tricks):
    above = tricks - (BOOK + level)
    if above < 0:
        return -cost_of_missing(doubled, vul, -above)
    return points_made(level, strain, doubled, vul, above)
