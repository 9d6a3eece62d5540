import itertools
import unittest

from cardsseen.play import best, plays, tricks
from helper import after_card, card, cards_named, hand, positions, true_worth, true_worths
from helper import check_no_positions, check_not_four_hands, check_positions_unchanged_and_repeated
from helper import check_too_many_cards


class BestTest(unittest.TestCase):
    def check_best(self, strain, leader, words, best_words):
        hands = [hand(cards) for cards in words.split(",")]
        self.assertEqual(best(strain, leader, hands, []), [0] + cards_named(best_words), words)

    def test_nothing_where_there_are_no_cards(self):
        for strain, leader in itertools.product(range(5), range(4)):
            self.assertEqual(best(strain, leader, [0] * 4, []), [0])

    def test_one_card_a_hand(self):
        for leader, length in itertools.product(range(4), range(4)):
            hands = [2 ** c for c in (3, 17, 30, 51)]
            trick = []
            for place in range(length):
                player = (leader + place) % 4
                trick.append(hands[player].bit_length() - 1)
                hands[player] = 0
            left = hands[(leader + length) % 4].bit_length() - 1
            self.assertEqual(best(4, leader, hands, trick), [0, left])

    def test_all_cards_that_do_as_well(self):
        self.check_best(4, 0, "SA SK SQ,H2 H3 H4,S2 S3 S4,H5 H6 H7", "SQ SK SA")
        self.check_best(4, 1, "S2 S3 S4,HA HK HQ,S5 S6 S7,H2 H3 H4", "HQ HK HA")

    def test_one_card_alone_keeps_the_worth(self):
        self.check_best(4, 2, "SA SJ HK,D3 D4 D5,CA S2 D2,SK SQ HA", "CA")

    def test_the_trick_that_ends_counts(self):
        """Who plays last wins this trick with the ace and the next with the two, or loses this one."""
        hands = [hand("H2"), hand("SA S2"), hand("H3"), hand("H4")]
        self.assertEqual(best(4, 2, hands, cards_named("S3 D5 S4")), [0, card("SA")])
        hands = [hand("H2"), hand("H3"), hand("SA S2"), hand("H4")]
        self.assertEqual(best(4, 3, hands, cards_named("S3 D5 S4")), [0, card("SA")])

    def test_a_trick_may_be_left_to_the_other_side(self):
        """East's ace now or at the next lead: one trick either way."""
        hands = [hand("D3"), hand("SA S2"), hand("S4"), hand("D4")]
        self.assertEqual(best(4, 2, hands, cards_named("S3 D5 D6")), [0] + cards_named("S2 SA"))

    def test_positions_against_best_play_as_worded(self):
        some, every = 0, 0
        for position in positions(82, 4, (1, 2, 3)):
            worth, worths = true_worth(*position), true_worths(*position)
            expected = [c for c in sorted(worths) if worths[c] == worth]
            self.assertEqual(best(*position), [0] + expected, position)
            if len(expected) < len(worths):
                some += 1
            elif len(expected) > 1:
                every += 1
        self.assertGreater(min(some, every), 30)

    def test_worth_is_kept_and_best_is_never_nothing(self):
        for position in positions(83, 2, (1, 2, 3)):
            cards = best(*position)[1:]
            self.assertGreater(len(cards), 0, position)
            self.assertEqual(cards, sorted(set(cards)))
            for played in plays(*position)[1:]:
                won, following = after_card(*position, played)
                kept = won + tricks(*following)[1] == tricks(*position)[1]
                self.assertEqual(kept, played in cards, (position, played))

    def test_no_position(self):
        check_no_positions(self, best)

    def test_hands_that_are_not_four(self):
        check_not_four_hands(self, best)

    def test_too_many_cards(self):
        check_too_many_cards(self, best)

    def test_unchanged_and_repeated(self):
        check_positions_unchanged_and_repeated(self, best)


if __name__ == "__main__":
    unittest.main()
