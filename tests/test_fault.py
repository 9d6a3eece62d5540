import unittest

from cardsseen.play import fault
from helper import GREATEST_HAND, check_unchanged_and_repeated, deals, hand

SUITS_DEALT = [2 ** 13 - 1 << 13 * suit for suit in range(4)]


class FaultTest(unittest.TestCase):
    def test_no_cards_are_a_deal(self):
        self.assertEqual(fault([0, 0, 0, 0]), [0, 0])

    def test_few_cards_are_a_deal(self):
        self.assertEqual(fault([hand("C2"), hand("SA"), hand("H7"), hand("C3")]), [0, 0])

    def test_full_deal(self):
        self.assertEqual(fault(SUITS_DEALT), [0, 0])

    def test_deals_of_every_size(self):
        for hands in deals(1, 10):
            self.assertEqual(fault(hands), [0, 0], hands)

    def test_each_card_may_be_in_each_hand(self):
        for card in range(52):
            others = [c for c in range(52) if c != card][:3]
            for player in range(4):
                hands = [2 ** c for c in others]
                hands.insert(player, 2 ** card)
                self.assertEqual(fault(hands), [0, 0], hands)

    def test_bit_above_in_each_hand(self):
        for bit in range(52, 64):
            for player in range(4):
                hands = [1, 2, 4, 8]
                hands[player] = 2 ** bit
                self.assertEqual(fault(hands), [0, 1], hands)

    def test_card_in_each_two_hands(self):
        for card in range(52):
            for one in range(4):
                for other in range(one):
                    rest = [c for c in range(52) if c != card]
                    hands = [2 ** c for c in rest[:4]]
                    hands[one] = hands[other] = 2 ** card
                    self.assertEqual(fault(hands), [0, 2], hands)

    def test_unequal_hands(self):
        for hands in deals(2, 3, range(1, 14)):
            for player in range(4):
                fewer = list(hands)
                fewer[player] &= fewer[player] - 1
                self.assertEqual(fault(fewer), [0, 3], fewer)

    def test_one_hand_alone_has_a_card(self):
        for player in range(4):
            hands = [0, 0, 0, 0]
            hands[player] = 1
            self.assertEqual(fault(hands), [0, 3])

    def test_all_cards_in_one_hand(self):
        self.assertEqual(fault([0, 2 ** 52 - 1, 0, 0]), [0, 3])

    def test_bit_above_is_told_before_all_else(self):
        self.assertEqual(fault([1, 1, 0, 2 ** 52]), [0, 1])
        self.assertEqual(fault([2 ** 52, 2 ** 52, 2 ** 52, 2 ** 52]), [0, 1])
        self.assertEqual(fault([2 ** 63, 0, 0, 0]), [0, 1])

    def test_card_in_two_hands_is_told_before_unequal_hands(self):
        self.assertEqual(fault([1, 1, 0, 0]), [0, 2])
        self.assertEqual(fault([7, 0, 0, 4]), [0, 2])
        self.assertEqual(fault([2 ** 52 - 1] * 4), [0, 2])

    def test_greatest_numbers(self):
        self.assertEqual(fault([GREATEST_HAND] * 4), [0, 1])
        self.assertEqual(fault([0, 0, 0, GREATEST_HAND]), [0, 1])

    def test_hands_that_are_not_four(self):
        for count in (0, 1, 2, 3, 5, 6):
            for number in (0, 1, GREATEST_HAND):
                self.assertEqual(fault([number] * count), [-1])
        self.assertEqual(fault([1, 2, 4, 8, 16]), [-1])

    def test_unchanged_and_repeated(self):
        for hands in ([], SUITS_DEALT, [1, 1, 0, 0], [1, 0, 0, 0], [GREATEST_HAND] * 4):
            check_unchanged_and_repeated(self, fault, list(hands))


if __name__ == "__main__":
    unittest.main()
