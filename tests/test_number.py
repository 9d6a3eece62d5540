import itertools
import math
import unittest

from cardsseen.play import number, read, write
from helper import GREATEST_HAND, check_unchanged_and_repeated, deals, owners

COUNT = math.factorial(52) // math.factorial(13) ** 4
FIRST = [(2 ** 13 - 1) << 13 * suit for suit in (3, 2, 1, 0)]
LAST = FIRST[::-1]


def hands_of(row):
    hands = [0, 0, 0, 0]
    for place, player in enumerate(row):
        hands[player] += 2 ** (51 - place)
    return hands


def following(row):
    """The row next in order: what is behind its last rise is put lowest."""
    place = max(k for k in range(51) if row[k] < row[k + 1])
    other = max(k for k in range(52) if row[k] > row[place])
    row = list(row)
    row[place], row[other] = row[other], row[place]
    return row[:place + 1] + row[:place:-1]


def ways(rooms):
    total = math.factorial(sum(rooms))
    for room in rooms:
        total //= math.factorial(room)
    return total


def counted(hands):
    """A full deal's number, by counting what comes before at each card."""
    rooms = [13] * 4
    before = 0
    for player in owners(hands):
        for lower in range(player):
            if rooms[lower]:
                rooms[lower] -= 1
                before += ways(rooms)
                rooms[lower] += 1
        rooms[player] -= 1
    return before


class NumberTest(unittest.TestCase):
    def test_first_deal(self):
        self.assertEqual(number(FIRST), [0, 0])

    def test_last_deal(self):
        self.assertEqual(number(LAST), [0, COUNT - 1])
        self.assertEqual(number(LAST), [0, 53644737765488792839237439999])

    def test_deals_from_the_first_on(self):
        row = owners(FIRST)
        for expected in range(500):
            self.assertEqual(number(hands_of(row)), [0, expected])
            row = following(row)

    def test_deals_up_to_the_last(self):
        mirrored = owners(FIRST)
        for back in range(500):
            row = [3 - player for player in mirrored]
            self.assertEqual(number(hands_of(row)), [0, COUNT - 1 - back])
            mirrored = following(mirrored)

    def test_neighbours(self):
        for hands in deals(40, 200, [13]):
            after = hands_of(following(owners(hands)))
            self.assertEqual(number(after)[1], number(hands)[1] + 1)

    def test_order_is_by_owners(self):
        tried = deals(41, 100, [13])
        by_owners = sorted(tried, key=owners)
        by_number = sorted(tried, key=lambda hands: number(hands)[1])
        self.assertEqual(by_number, by_owners)

    def test_each_player_has_the_highest_card(self):
        for player in range(4):
            rest = sorted(list(range(4)) * 13)
            rest.remove(player)
            self.assertEqual(number(hands_of([player] + rest)), [0, player * COUNT // 4])

    def test_deals_against_counting(self):
        for hands in deals(42, 200, [13]):
            self.assertEqual(number(hands), [0, counted(hands)])
        for order in itertools.permutations(FIRST):
            self.assertEqual(number(list(order)), [0, counted(order)])

    def test_texts_tell_numbers_too(self):
        for hands in deals(43, 20, [13]):
            for first in range(4):
                self.assertEqual(number(read(write(first, hands)[1:])[1:]), number(hands))

    def test_deal_that_is_not_full(self):
        for hands in deals(44, 5, range(13)):
            self.assertEqual(number(hands), [-3], hands)

    def test_no_deal(self):
        for player in range(4):
            above, twice, unequal, fewer = list(FIRST), list(FIRST), list(FIRST), list(FIRST)
            above[player] += 2 ** 52
            twice[player] = twice[player - 1]
            moved = unequal[player - 1] & -unequal[player - 1]
            unequal[player - 1] -= moved
            unequal[player] += moved
            fewer[player] &= fewer[player] - 1
            for hands in (above, twice, unequal, fewer):
                self.assertEqual(number(hands), [-3], hands)
        self.assertEqual(number([2 ** 52 - 1, 0, 0, 0]), [-3])
        self.assertEqual(number([FIRST[0], FIRST[1], FIRST[2], 8190 + 2 ** 52]), [-3])
        self.assertEqual(number([GREATEST_HAND] * 4), [-3])

    def test_hands_that_are_not_four(self):
        for count in (0, 1, 2, 3, 5, 6):
            self.assertEqual(number((FIRST + [0, 0])[:count]), [-1])
            self.assertEqual(number([0] * count), [-1])
            self.assertEqual(number([GREATEST_HAND] * count), [-1])

    def test_unchanged_and_repeated(self):
        for hands in ([], [0] * 4, FIRST, LAST, [GREATEST_HAND] * 4, FIRST + [0]):
            check_unchanged_and_repeated(self, number, hands)


if __name__ == "__main__":
    unittest.main()
