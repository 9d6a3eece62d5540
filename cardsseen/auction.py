"""The auction: which calls can be made, when it is over, and what has been bid.

Calls are numbers: 0 pass, 1 double, 2 redouble, 3 + 5 (level - 1) + strain a bid.
"""

from cardsseen.deals import PLAYERS
from cardsseen.rules import STRAINS, player_at, side_of

PASS = 0
DOUBLE = 1
FIRST_BID = 3
LAST_BID = 37
# Stands for the last bid where there is none: below every bid.
NO_BID = 0


def level_of(bid):
    return (bid - FIRST_BID) // STRAINS + 1


def strain_of(bid):
    return (bid - FIRST_BID) % STRAINS


class Auction:
    def __init__(self, dealer):
        self.caller = dealer
        self.bid = NO_BID
        self.bidder = dealer
        self.doubled = 0
        self.passes = 0
        # Who of a side was the first to bid a strain, by side and strain.
        self.first_bidders = {}

    # Before a bid there are passes alone, so those in a row are those from the beginning.
    def is_over(self):
        return self.passes == (PLAYERS if self.bid == NO_BID else PLAYERS - 1)

    def can_be_made(self, call):
        if self.is_over() or call > LAST_BID:
            return False
        if call >= FIRST_BID:
            return call > self.bid
        return call == PASS or self.can_be_doubled(call)

    # By a double or, where the call is none, a redouble.
    def can_be_doubled(self, call):
        if self.bid == NO_BID:
            return False
        is_own = side_of(self.caller) == side_of(self.bidder)
        if call == DOUBLE:
            return not is_own and self.doubled == 0
        return is_own and self.doubled == 1

    def make(self, call):
        self.passes = self.passes + 1 if call == PASS else 0
        if call >= FIRST_BID:
            self.take_bid(call)
        elif call != PASS:
            self.doubled += 1
        self.caller = player_at(self.caller, 1)

    def take_bid(self, bid):
        self.bid = bid
        self.bidder = self.caller
        self.doubled = 0
        self.first_bidders.setdefault((side_of(self.caller), strain_of(bid)), self.caller)

    def outcome(self):
        if not self.is_over():
            return [0]
        if self.bid == NO_BID:
            return [1, 0, 0, 0, 0]
        strain = strain_of(self.bid)
        declarer = self.first_bidders[(side_of(self.bidder), strain)]
        return [1, level_of(self.bid), strain, declarer, self.doubled]


# The whole answer: 0 and the outcome, or -2 and the place of the first call that cannot be made.
def outcome_of_calls(dealer, calls):
    auction = Auction(dealer)
    for place, call in enumerate(calls):
        if not auction.can_be_made(call):
            return [-2, place]
        auction.make(call)
    return [0] + auction.outcome()
