import unittest

from cardsseen.play import shape
from helper import GREATEST_HAND, GREATEST_NUMBER, cards_of, check_unchanged_and_repeated, deals, hand


class ShapeTest(unittest.TestCase):
    def test_each_card_of_each_player(self):
        for card in range(52):
            for player in range(4):
                hands = [0, 0, 0, 0]
                hands[player] = 2 ** card
                for asked in range(4):
                    expected = [0, 0, 0, 0]
                    if asked == player:
                        expected[card // 13] = 1
                    self.assertEqual(shape(asked, hands), [0] + expected)

    def test_each_player_and_suit(self):
        hands = [hand("C2 C3 D4"), hand("D5 D6 H7"), hand("H8 H9 ST"), hand("SJ SQ CK")]
        self.assertEqual(shape(0, hands), [0, 2, 1, 0, 0])
        self.assertEqual(shape(1, hands), [0, 0, 2, 1, 0])
        self.assertEqual(shape(2, hands), [0, 0, 0, 2, 1])
        self.assertEqual(shape(3, hands), [0, 1, 0, 0, 2])

    def test_no_cards(self):
        for player in range(4):
            self.assertEqual(shape(player, [0, 0, 0, 0]), [0, 0, 0, 0, 0])

    def test_deals_of_every_size(self):
        for hands in deals(30, 8):
            for player in range(4):
                suits = [c // 13 for c in cards_of(hands[player])]
                self.assertEqual(shape(player, hands), [0] + [suits.count(suit) for suit in range(4)])

    def test_hands_that_are_no_deal(self):
        hands = [hand("SA SK"), hand("SA"), 0, 2 ** 52 - 1]
        self.assertEqual(shape(0, hands), [0, 0, 0, 0, 2])
        self.assertEqual(shape(1, hands), [0, 0, 0, 0, 1])
        self.assertEqual(shape(2, hands), [0, 0, 0, 0, 0])
        self.assertEqual(shape(3, hands), [0, 13, 13, 13, 13])

    def test_bits_above_are_not_looked_at(self):
        for player in range(4):
            for bit in range(52, 64):
                hands = [2 ** bit] * 4
                self.assertEqual(shape(player, hands), [0, 0, 0, 0, 0])
                hands[player] += hand("HA SA")
                self.assertEqual(shape(player, hands), [0, 0, 0, 1, 1])
            self.assertEqual(shape(player, [GREATEST_HAND] * 4), [0, 13, 13, 13, 13])

    def test_player_above_three(self):
        for player in (4, 5, 51, GREATEST_NUMBER):
            self.assertEqual(shape(player, [1, 2, 4, 8]), [-1])
            self.assertEqual(shape(player, [GREATEST_HAND] * 4), [-1])
        self.assertEqual(shape(4, [1, 2, 4, 8, 16]), [-1])

    def test_hands_that_are_not_four(self):
        for count in (0, 1, 2, 3, 5, 6):
            for player in (0, 1, 2, 3, 4, 5):
                self.assertEqual(shape(player, [1] * count), [-1])

    def test_unchanged_and_repeated(self):
        for player in range(5):
            for hands in ([], [0] * 4, [1, 1, 0, 2 ** 60], [GREATEST_HAND] * 4, [0] * 6):
                check_unchanged_and_repeated(self, shape, player, hands)


if __name__ == "__main__":
    unittest.main()
