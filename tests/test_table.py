import itertools
import random
import unittest

from cardsseen.play import table, tricks
from helper import GREATEST_HAND, check_unchanged_and_repeated, deal_of, deals, hand, pool_of, spoiled_hands
from helper import true_worth


def told_by(worth_of, hands):
    """The twenty numbers, from what side 0 gets of all the tricks that there are."""
    told = []
    for strain, player in itertools.product(range(5), range(4)):
        won = worth_of(strain, (player + 1) % 4, hands, [])
        told.append(won if player in (0, 2) else bin(hands[0]).count("1") - won)
    return told


def deals_of_few_suits(seed, count, sizes):
    rng = random.Random(seed)
    return [deal_of(rng, size, pool_of(rng, size)) for size in sizes for turn in range(count)]


class TableTest(unittest.TestCase):
    def check_table(self, words, *rows):
        """The rows are the strains, clubs first, each with a digit for each player."""
        hands = [hand(cards) for cards in words.split(",")]
        self.assertEqual(table(hands), [0] + [int(digit) for row in rows for digit in row], words)

    def test_no_cards(self):
        self.assertEqual(table([0] * 4), [0] * 21)

    def test_one_card_a_hand(self):
        """The one who has trumps wins whoever leads; where nobody has any, it is by who leads."""
        self.check_table("C2,D2,H2,C3", "0101", "0101", "1010", "0001", "0001")
        self.check_table("S2,H5,D3,D4", "0100", "0101", "0101", "1010", "0100")
        self.check_table("S2,S5,S3,S4", *["0101"] * 5)

    def test_who_leads_counts(self):
        """North gets both tricks unless north leads."""
        self.check_table("SA SQ,S5 S6,S2 S3,SK S4", *["2021"] * 5)

    def test_each_side_gets_all(self):
        self.check_table("SA SK SQ,S2 S3 S4,SJ ST S9,S5 S6 S7", *["3030"] * 5)
        self.check_table("S2 S3 S4,SA SK SQ,S5 S6 S7,SJ ST S9", *["0303"] * 5)
        self.check_table("C2 C3 C4,D2 D3 D4,H2 H3 H4,S2 S3 S4", "3030", "0303", "3030", "0303", "0000")

    def test_deals_against_best_play_as_worded(self):
        for hands in deals(100, 20, (1, 2)) + deals(101, 3, (3,)) + deals_of_few_suits(102, 5, (1, 2, 3)):
            self.assertEqual(table(hands), [0] + told_by(true_worth, hands), hands)

    def test_deals_against_tricks(self):
        for hands in deals(103, 10, (1, 2)) + deals_of_few_suits(104, 3, (1, 2, 3)):
            expected = told_by(lambda *position: tricks(*position)[1], hands)
            self.assertEqual(table(hands), [0] + expected, hands)

    def test_hands_that_are_not_four(self):
        for count in (0, 1, 2, 3, 5, 6):
            for hands in ([2 ** c for c in range(6)], [0] * 6, [1] * 6, [31 << 5 * p for p in range(6)],
                          [2 ** 52] * 6, [GREATEST_HAND] * 6):
                self.assertEqual(table(hands[:count]), [-1], hands[:count])

    def test_no_deal(self):
        for hands in deals(105, 4, range(13)):
            for player in range(4):
                for spoiled in spoiled_hands(player, hands):
                    self.assertEqual(table(spoiled), [-3], spoiled)
        for hands in ([2 ** 52] * 4, [2 ** bit for bit in (60, 61, 62, 63)], [GREATEST_HAND] * 4, [1] * 4, [15] * 4,
                      [0, 0, 0, 1], [2 ** 52 - 1] + [0] * 3, [2 ** 13 - 1] * 4):
            self.assertEqual(table(hands), [-3], hands)

    def test_too_many_cards(self):
        for hands in deals(106, 3, range(4, 14)):
            self.assertEqual(table(hands), [-9], hands)
        for hands in deals(107, 1, range(4)):
            self.assertEqual(table(hands)[0], 0, hands)

    def test_unchanged_and_repeated(self):
        for hands in deals(108, 1, (0, 1, 2, 3, 4, 13)) + [[], [1] * 3, [1] * 4, [2 ** 52] * 4, [0] * 6]:
            check_unchanged_and_repeated(self, table, hands)


if __name__ == "__main__":
    unittest.main()
