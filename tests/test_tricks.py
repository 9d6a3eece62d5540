import itertools
import unittest

from cardsseen.play import tricks
from helper import card, hand, positions, taker_of, true_worth
from helper import check_no_positions, check_not_four_hands, check_positions_unchanged_and_repeated
from helper import check_too_many_cards


class TricksTest(unittest.TestCase):
    def check_worth(self, strain, leader, words, worth):
        hands = [hand(cards) for cards in words.split(",")]
        self.assertEqual(tricks(strain, leader, hands, []), [0, worth], words)

    def test_no_cards_and_no_trick(self):
        for strain, leader in itertools.product(range(5), range(4)):
            self.assertEqual(tricks(strain, leader, [0] * 4, []), [0, 0])

    def test_one_card_a_hand(self):
        for order in itertools.permutations([card("C2"), card("CA"), card("D3"), card("S4")]):
            for strain, leader in itertools.product(range(5), range(4)):
                cards = [order[(leader + place) % 4] for place in range(4)]
                won = 1 if taker_of(strain, leader, cards) in (0, 2) else 0
                for length in range(4):
                    hands = [2 ** c for c in order]
                    for place in range(length):
                        hands[(leader + place) % 4] = 0
                    self.assertEqual(tricks(strain, leader, hands, cards[:length]), [0, won])

    def test_each_side_gets_all(self):
        self.check_worth(4, 0, "SA SK SQ,H2 H3 H4,S2 S3 S4,H5 H6 H7", 3)
        self.check_worth(4, 1, "S2 S3 S4,HA HK HQ,S5 S6 S7,H2 H3 H4", 0)

    def test_finesse(self):
        for strain in (3, 4):
            self.check_worth(strain, 2, "SA SQ,S5 S6,S2 S3,SK S4", 2)
            self.check_worth(strain, 0, "SA SQ,S5 S6,S2 S3,SK S4", 1)
            self.check_worth(strain, 3, "SA SQ,S5 S6,S2 S3,SK S4", 2)
            self.check_worth(strain, 2, "SA SQ,SK S6,S2 S3,S5 S4", 1)

    def test_squeeze(self):
        """West keeps SK SQ against the jack, or HA against the king, not both."""
        self.check_worth(4, 2, "SA SJ HK,D3 D4 D5,CA S2 D2,SK SQ HA", 3)
        self.check_worth(4, 2, "SA SJ HK,SK SQ HA,CA S2 D2,D3 D4 D5", 2)

    def test_ruff(self):
        """North has no hearts: south's heart is won by a trump, and by east's ace without trumps."""
        self.check_worth(3, 2, "S2 C2,HA D3,H3 C4,H4 D5", 2)
        self.check_worth(4, 2, "S2 D2,HA HK,H3 C4,H4 D5", 1)

    def test_side_0_wants_many_and_side_1_few(self):
        """Who plays last wins this trick with the ace and the next with the two, or neither."""
        trick = [card("S3"), card("D5"), card("D6")]
        self.assertEqual(tricks(4, 2, [hand("D3"), hand("SA S2"), hand("H4"), hand("D4")], trick), [0, 0])
        self.assertEqual(tricks(4, 3, [hand("D3"), hand("D4"), hand("SA S2"), hand("H4")], trick), [0, 2])

    def test_positions_against_best_play_as_worded(self):
        told = {}
        for position in positions(81, 5, (1, 2, 3)):
            expected = true_worth(*position)
            self.assertEqual(tricks(*position), [0, expected], position)
            told[expected] = told.get(expected, 0) + 1
        self.assertGreater(min(told[worth] for worth in range(4)), 20)

    def test_no_position(self):
        check_no_positions(self, tricks)

    def test_hands_that_are_not_four(self):
        check_not_four_hands(self, tricks)

    def test_too_many_cards(self):
        check_too_many_cards(self, tricks)

    def test_unchanged_and_repeated(self):
        check_positions_unchanged_and_repeated(self, tricks)


if __name__ == "__main__":
    unittest.main()
