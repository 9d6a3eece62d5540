import unittest

from cardsseen.play import read, write
from helper import GREATEST_HAND, GREATEST_NUMBER, PLAYER_LETTERS, RANK_LETTERS
from helper import bytes_of, cards_of, check_unchanged_and_repeated, deals, hand, words_of

SUITS_DEALT = [2 ** 13 - 1 << 13 * suit for suit in range(4)]


def hand_words(number):
    suits = []
    for suit in (3, 2, 1, 0):
        ranks = [c % 13 for c in cards_of(number) if c // 13 == suit]
        suits.append("".join(RANK_LETTERS[rank] for rank in reversed(ranks)))
    return ".".join(suits)


def deal_words(first, hands):
    in_turn = [hands[(first + step) % 4] for step in range(4)]
    return PLAYER_LETTERS[first] + ":" + " ".join(hand_words(number) for number in in_turn)


class WriteTest(unittest.TestCase):
    def check_words(self, first, hands, words):
        self.assertEqual(write(first, hands), [0] + bytes_of(words))

    def test_no_cards_from_each_player(self):
        for first, letter in enumerate(PLAYER_LETTERS):
            self.check_words(first, [0, 0, 0, 0], letter + ":... ... ... ...")

    def test_each_player_first(self):
        hands = [hand("SA C2"), hand("HK HQ"), hand("DJ DT"), hand("C9 S8")]
        self.check_words(0, hands, "N:A...2 .KQ.. ..JT. 8...9")
        self.check_words(1, hands, "E:.KQ.. ..JT. 8...9 A...2")
        self.check_words(2, hands, "S:..JT. 8...9 A...2 .KQ..")
        self.check_words(3, hands, "W:8...9 A...2 .KQ.. ..JT.")

    def test_full_deal(self):
        suit = "AKQJT98765432"
        words = "E:.." + suit + ". ." + suit + ".. " + suit + "... ..." + suit
        self.check_words(1, SUITS_DEALT, words)

    def test_deals_of_every_size(self):
        for hands in deals(3, 6):
            for first in range(4):
                self.check_words(first, hands, deal_words(first, hands))

    def test_read_gives_back_what_write_was_handed(self):
        for hands in deals(4, 6):
            for first in range(4):
                self.assertEqual(read(write(first, hands)[1:]), [0] + hands)

    def test_player_above_three(self):
        for first in (4, 5, 255, GREATEST_NUMBER):
            self.assertEqual(write(first, [0, 0, 0, 0]), [-1])
            self.assertEqual(write(first, SUITS_DEALT), [-1])

    def test_hands_that_are_not_four(self):
        for count in (0, 1, 2, 3, 5, 6):
            for first in range(4):
                self.assertEqual(write(first, [0] * count), [-1])
                self.assertEqual(write(first, [GREATEST_HAND] * count), [-1])

    def test_no_deal(self):
        for first in range(4):
            self.assertEqual(write(first, [2 ** 52, 1, 2, 4]), [-3])
            self.assertEqual(write(first, [1, 1, 2, 4]), [-3])
            self.assertEqual(write(first, [1, 2, 4, 0]), [-3])
            self.assertEqual(write(first, [GREATEST_HAND] * 4), [-3])

    def test_wrong_arguments_are_told_before_no_deal(self):
        for hands in ([1, 1, 2, 4], [1, 2, 4, 0], [GREATEST_HAND] * 4):
            self.assertEqual(write(4, hands), [-1])
        self.assertEqual(write(0, [1, 1, 2]), [-1])
        self.assertEqual(write(4, [1, 1, 2, 4, 8]), [-1])

    def test_longest_text(self):
        self.assertEqual(len(words_of(write(2, SUITS_DEALT)[1:])), 69)

    def test_unchanged_and_repeated(self):
        for first in range(5):
            for hands in ([], SUITS_DEALT, [1, 1, 0, 0], [0] * 4, [1, 2, 4, 8]):
                check_unchanged_and_repeated(self, write, first, list(hands))


if __name__ == "__main__":
    unittest.main()
