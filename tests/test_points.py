import unittest

from cardsseen.play import points
from helper import GREATEST_HAND, cards_of, check_unchanged_and_repeated, deals, hand

POINTS_BY_RANK = (0, 0, 0, 0, 0, 0, 0, 0, 0, 1, 2, 3, 4)


class PointsTest(unittest.TestCase):
    def test_each_card_in_each_hand(self):
        for card in range(52):
            for player in range(4):
                hands = [0, 0, 0, 0]
                hands[player] = 2 ** card
                expected = [0, 0, 0, 0]
                expected[player] = POINTS_BY_RANK[card % 13]
                self.assertEqual(points(hands), [0] + expected, card)

    def test_honours_of_each_suit(self):
        for suit in "CDHS":
            names = [suit + rank for rank in "AKQJ"]
            self.assertEqual(points([hand(name) for name in names]), [0, 4, 3, 2, 1])
            self.assertEqual(points([hand(" ".join(names)), 0, 0, hand(suit + "T")]), [0, 10, 0, 0, 0])

    def test_no_cards(self):
        self.assertEqual(points([0, 0, 0, 0]), [0, 0, 0, 0, 0])

    def test_deals_of_every_size(self):
        for hands in deals(20, 10):
            expected = [sum(POINTS_BY_RANK[c % 13] for c in cards_of(number)) for number in hands]
            self.assertEqual(points(hands), [0] + expected)

    def test_full_deal_has_forty(self):
        for hands in deals(21, 10, [13]):
            self.assertEqual(sum(points(hands)), 40)

    def test_hands_that_are_no_deal(self):
        self.assertEqual(points([hand("SA")] * 4), [0, 4, 4, 4, 4])
        self.assertEqual(points([hand("SA HK"), 0, hand("CJ"), 0]), [0, 7, 0, 1, 0])
        self.assertEqual(points([2 ** 52 - 1] * 4), [0, 40, 40, 40, 40])

    def test_bits_above_are_not_looked_at(self):
        for bit in range(52, 64):
            self.assertEqual(points([2 ** bit, 0, hand("DQ") + 2 ** bit, 2 ** bit]), [0, 0, 0, 2, 0])
        self.assertEqual(points([GREATEST_HAND] * 4), [0, 40, 40, 40, 40])
        self.assertEqual(points([0, GREATEST_HAND - (2 ** 52 - 1), 0, 0]), [0, 0, 0, 0, 0])

    def test_hands_that_are_not_four(self):
        for count in (0, 1, 2, 3, 5, 6):
            for number in (0, hand("SA"), GREATEST_HAND):
                self.assertEqual(points([number] * count), [-1])

    def test_unchanged_and_repeated(self):
        for hands in ([], [0] * 4, [1, 1, 0, 2 ** 60], [GREATEST_HAND] * 4, [0] * 6):
            check_unchanged_and_repeated(self, points, hands)


if __name__ == "__main__":
    unittest.main()
