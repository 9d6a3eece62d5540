import itertools
import random
import unittest

from cardsseen.play import winner
from helper import GREATEST_NUMBER, RANK_LETTERS, cards_named, check_unchanged_and_repeated, taker_of


class WinnerTest(unittest.TestCase):
    def check_place(self, strain, words, place):
        """The card at this place of the trick wins it, whoever leads."""
        for leader in range(4):
            self.assertEqual(winner(strain, leader, cards_named(words)), [0, (leader + place) % 4], words)

    def test_each_leader(self):
        self.assertEqual(winner(4, 0, cards_named("C2 C3 C5 C4")), [0, 2])
        self.assertEqual(winner(4, 1, cards_named("C2 C3 C5 C4")), [0, 3])
        self.assertEqual(winner(4, 2, cards_named("C2 C3 C5 C4")), [0, 0])
        self.assertEqual(winner(4, 3, cards_named("C2 C3 C5 C4")), [0, 1])

    def test_highest_card_of_the_suit_led(self):
        for suit, strain in itertools.product("CDHS", range(5)):
            for ranks in itertools.permutations("2TJA"):
                self.check_place(strain, " ".join(suit + rank for rank in ranks), ranks.index("A"))

    def test_each_two_ranks(self):
        for one, other in itertools.permutations("456789TJQKA", 2):
            higher = RANK_LETTERS.index(other) > RANK_LETTERS.index(one)
            self.check_place(4, " ".join("H" + rank for rank in (one, "2", other, "3")), 2 if higher else 0)

    def test_trump_beats_the_suit_led(self):
        for trumps, led in itertools.permutations(range(4), 2):
            cards = "CDHS"[led] + "K ", "CDHS"[led] + "A ", "CDHS"[trumps] + "2 ", "CDHS"[led] + "Q"
            self.check_place(trumps, "".join(cards), 2)

    def test_higher_of_two_trumps(self):
        self.check_place(3, "HA S2 S3 HK", 2)
        self.check_place(3, "HA S3 S2 HK", 1)
        self.check_place(0, "SA C9 SK CT", 3)
        self.check_place(0, "SA CT SK C9", 1)

    def test_three_trumps(self):
        self.check_place(1, "HA D4 DA D5", 2)

    def test_trumps_led(self):
        self.check_place(2, "H2 SA DA CA", 0)
        self.check_place(2, "H2 SA H3 CA", 2)

    def test_no_trump_among_the_cards(self):
        self.check_place(0, "D4 D3 D5 D2", 2)
        self.check_place(0, "D4 SA HA D2", 0)

    def test_other_suits_win_nothing(self):
        for strain in (0, 4):
            self.check_place(strain, "D2 SA HA SK", 0)
            self.check_place(strain, "D2 SA D3 HA", 2)
            self.check_place(strain, "H2 SA DA SK", 0)

    def test_none_is_trumps(self):
        self.check_place(4, "C2 DA HA SA", 0)
        self.check_place(4, "S2 CA DA HA", 0)

    def test_who_followed_is_not_looked_at(self):
        self.check_place(1, "C2 D2 C3 D3", 3)
        self.check_place(4, "C2 D2 C3 D3", 2)

    def test_tricks_against_the_rules(self):
        rng = random.Random(80)
        for strain, leader in itertools.product(range(5), range(4)):
            for turn in range(400):
                cards = rng.sample(range(52), 4)
                self.assertEqual(winner(strain, leader, cards), [0, taker_of(strain, leader, cards)], cards)

    def test_strain_above_four(self):
        for strain in (5, 6, 13, 51, GREATEST_NUMBER):
            for leader in range(4):
                self.assertEqual(winner(strain, leader, [0, 1, 2, 3]), [-1])

    def test_leader_above_three(self):
        for leader in (4, 5, 6, 7, GREATEST_NUMBER):
            for strain in range(5):
                self.assertEqual(winner(strain, leader, [0, 1, 2, 3]), [-1])

    def test_cards_that_are_not_four(self):
        for count in (0, 1, 2, 3, 5, 6):
            for strain, leader in itertools.product(range(6), range(5)):
                self.assertEqual(winner(strain, leader, list(range(count))), [-1])
                self.assertEqual(winner(strain, leader, [GREATEST_NUMBER] * count), [-1])

    def test_card_above_51(self):
        for place in range(4):
            for above in (52, 53, 64, 2 ** 31, GREATEST_NUMBER):
                cards = [0, 13, 26, 51]
                self.assertEqual(winner(4, 0, cards)[0], 0)
                cards[place] = above
                self.assertEqual(winner(4, 0, cards), [-1], cards)

    def test_card_twice(self):
        for one, other in itertools.combinations(range(4), 2):
            for twice in (0, 12, 13, 51):
                cards = [1, 14, 27, 40]
                cards[one] = cards[other] = twice
                self.assertEqual(winner(4, 0, cards), [-1], cards)
        self.assertEqual(winner(4, 0, [7, 7, 7, 7]), [-1])
        self.assertEqual(winner(4, 0, [7, 8, 9, 10, 10]), [-1])

    def test_unchanged_and_repeated(self):
        for cards in ([], [1, 2, 3], [0, 13, 26, 39], [5, 5, 6, 7], [51, 52, 53, 54], [0, 1, 2, 3, 4, 5]):
            for strain, leader in ((0, 0), (4, 3), (5, 4)):
                check_unchanged_and_repeated(self, winner, strain, leader, cards)


if __name__ == "__main__":
    unittest.main()
