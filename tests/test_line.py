import itertools
import unittest

from cardsseen.play import best, line, tricks
from helper import after_card, cards_named, hand, positions, true_worth, true_worths
from helper import check_no_positions, check_not_four_hands, check_positions_unchanged_and_repeated
from helper import check_too_many_cards


def positions_along(position, cards):
    """The positions before each of the cards, how many tricks side 0 gets, and the last position."""
    passed, won = [], 0
    for played in cards:
        passed.append(position)
        taken, position = after_card(*position, played)
        won += taken
    return passed, won, position


class LineTest(unittest.TestCase):
    def check_line(self, strain, leader, words, trick_words, line_words):
        hands = [hand(cards) for cards in words.split(",")]
        expected = [0] + cards_named(line_words)
        self.assertEqual(line(strain, leader, hands, cards_named(trick_words)), expected, words)

    def test_nothing_is_played_where_there_are_no_cards(self):
        for strain, leader in itertools.product(range(5), range(4)):
            self.assertEqual(line(strain, leader, [0] * 4, []), [0])

    def test_one_card_a_hand(self):
        cards = [3, 17, 30, 51]
        for strain, leader, length in itertools.product(range(5), range(4), range(4)):
            order = [cards[(leader + place) % 4] for place in range(4)]
            hands = [0 if c in order[:length] else 2 ** c for c in cards]
            self.assertEqual(line(strain, leader, hands, order[:length]), [0] + order[length:])

    def test_who_wins_leads(self):
        self.check_line(4, 0, "C2 D2,C5 D3,C3 D4,C4 DA", "", "C2 C5 C3 C4 D3 D4 DA D2")
        self.check_line(4, 0, "C2 D2,C3 D3,C5 D4,C4 DA", "", "C2 C3 C5 C4 D4 DA D2 D3")
        self.check_line(0, 3, "C2 D2,D5 H3,D4 H4,D3 HA", "", "D3 D2 D5 D4 H3 H4 HA C2")

    def test_the_least_of_the_cards_that_do_as_well(self):
        self.check_line(4, 0, "SA SK SQ,H2 H3 H4,S2 S3 S4,H5 H6 H7", "",
                        "SQ H2 S2 H5 SK H3 S3 H6 SA H4 S4 H7")

    def test_a_lower_card_that_loses_a_trick_is_not_played(self):
        """South begins the squeeze with the ace of clubs, not with the two of diamonds or spades."""
        self.check_line(4, 2, "H2 SA SJ,C3 C4 D5,CA S2 D2,SK SQ HA", "",
                        "CA HA SJ C3 S2 SQ SA C4 H2 D5 D2 SK")

    def test_the_trick_that_ends_counts(self):
        self.check_line(4, 2, "H2,SA S2,H3,H4", "S3 D5 S4", "SA S2 H3 H4 H2")
        self.check_line(4, 3, "H2,H3,SA S2,H4", "S3 D5 S4", "SA S2 H4 H2 H3")

    def test_from_within_a_trick(self):
        """North takes the queen at once, since west would go on with the nine of hearts."""
        self.check_line(4, 1, "C5 CA,C3,C4 C7,CQ H9", "C2", "C4 CQ CA C5 C3 C7 H9")
        self.check_line(4, 1, "C5 CA,C3,C7,CQ H9", "C2 C4", "CQ CA C5 C3 C7 H9")
        self.check_line(4, 1, "C5 CA,C3,C7,H9", "C2 C4 CQ", "CA C5 C3 C7 H9")

    def test_positions_against_best_play_as_worded(self):
        lowest, others = 0, 0
        for position in positions(90, 3, (1, 2, 3)):
            answer = line(*position)
            self.assertEqual(answer[0], 0)
            passed, won, last = positions_along(position, answer[1:])
            for before, played in zip(passed, answer[1:]):
                worth, worths = true_worth(*before), true_worths(*before)
                self.assertEqual(played, min(c for c in worths if worths[c] == worth), position)
                lowest, others = lowest + (played == min(worths)), others + (played != min(worths))
            self.assertEqual((last[2], last[3]), ([0] * 4, []), position)
            self.assertEqual(won, true_worth(*position), position)
        self.assertGreater(min(lowest, others), 100)

    def test_each_card_is_the_least_that_best_tells(self):
        for position in positions(91, 1, (1, 2, 3)):
            cards = line(*position)[1:]
            passed, won, last = positions_along(position, cards)
            self.assertEqual(cards, [best(*before)[1] for before in passed], position)
            self.assertEqual(best(*last), [0], position)

    def test_as_many_tricks_as_tricks_says(self):
        told = {}
        for position in positions(92, 2, (1, 2, 3)):
            passed, won, last = positions_along(position, line(*position)[1:])
            self.assertEqual([0, won], tricks(*position), position)
            told[won] = told.get(won, 0) + 1
        self.assertGreater(min(told[worth] for worth in range(4)), 10)

    def test_no_position(self):
        check_no_positions(self, line)

    def test_hands_that_are_not_four(self):
        check_not_four_hands(self, line)

    def test_too_many_cards(self):
        check_too_many_cards(self, line)

    def test_unchanged_and_repeated(self):
        check_positions_unchanged_and_repeated(self, line)


if __name__ == "__main__":
    unittest.main()
