import itertools
import unittest

from cardsseen.play import turn
from helper import GREATEST_HAND, card, hand, positions
from helper import check_no_positions, check_not_four_hands, check_positions_unchanged_and_repeated


class TurnTest(unittest.TestCase):
    def test_leader_at_the_beginning(self):
        for strain, leader in itertools.product(range(5), range(4)):
            self.assertEqual(turn(strain, leader, [1, 2, 4, 8], []), [0, leader])

    def test_no_cards_and_no_trick(self):
        for strain, leader in itertools.product(range(5), range(4)):
            self.assertEqual(turn(strain, leader, [0] * 4, []), [0, leader])

    def test_after_west_comes_north(self):
        self.assertEqual(turn(4, 3, [1, 2, 4, 0], [3]), [0, 0])
        self.assertEqual(turn(4, 3, [0, 2, 4, 0], [3, 0]), [0, 1])
        self.assertEqual(turn(4, 3, [0, 0, 4, 0], [3, 0, 1]), [0, 2])
        self.assertEqual(turn(4, 1, [1, 0, 0, 0], [1, 2, 3]), [0, 0])

    def test_as_many_after_the_leader_as_the_trick_has_cards(self):
        for strain, leader, hands, trick in positions(64, 2, range(14)):
            expected = (list(range(4)) * 2)[leader + len(trick)]
            self.assertEqual(turn(strain, leader, hands, trick), [0, expected], (hands, trick))

    def test_who_cannot_follow_may_play_another_suit(self):
        hands = [hand("C3"), hand("D5"), hand("H9 HT"), hand("C8 C9")]
        self.assertEqual(turn(3, 0, hands, [card("C2"), card("D4")]), [0, 2])

    def test_full_deal_is_no_deal_if_the_trick_is_added(self):
        full = [2 ** 13 - 1 << 13 * suit for suit in range(4)]
        self.assertEqual(turn(4, 2, full, []), [0, 2])
        self.assertEqual(turn(4, 2, full, [26]), [-3])

    def test_no_position(self):
        check_no_positions(self, turn)

    def test_hands_that_are_not_four(self):
        check_not_four_hands(self, turn)
        self.assertEqual(turn(5, 4, [GREATEST_HAND] * 4, [52]), [-3])

    def test_unchanged_and_repeated(self):
        check_positions_unchanged_and_repeated(self, turn)


if __name__ == "__main__":
    unittest.main()
