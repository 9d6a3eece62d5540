import itertools
import unittest

from cardsseen.play import plays
from helper import GREATEST_HAND, card, cards_named, cards_of, hand, may_be_played, positions
from helper import check_no_positions, check_not_four_hands, check_positions_unchanged_and_repeated


class PlaysTest(unittest.TestCase):
    def test_leader_plays_any_card(self):
        hands = [hand("C2 SA"), hand("H4 D3"), hand("ST C9"), hand("D2 DA")]
        for strain in range(5):
            self.assertEqual(plays(strain, 0, hands, []), [0] + cards_named("C2 SA"))
            self.assertEqual(plays(strain, 1, hands, []), [0] + cards_named("D3 H4"))
            self.assertEqual(plays(strain, 2, hands, []), [0] + cards_named("C9 ST"))
            self.assertEqual(plays(strain, 3, hands, []), [0] + cards_named("D2 DA"))

    def test_who_can_must_follow(self):
        for suit, leader, strain in itertools.product(range(4), range(4), range(5)):
            following = [13 * suit + rank for rank in (1, 3, 8)]
            others = [13 * other + 12 for other in range(4) if other != suit]
            free = [c for c in range(52) if c not in following + others]
            trick = [free.pop(free.index(13 * suit + 2))]
            hands = [0, 0, 0, 0]
            hands[leader] = sum(2 ** c for c in free[:5])
            hands[(leader + 1) % 4] = sum(2 ** c for c in following + others)
            hands[(leader + 2) % 4] = sum(2 ** c for c in free[5:11])
            hands[(leader + 3) % 4] = sum(2 ** c for c in free[11:17])
            self.assertEqual(plays(strain, leader, hands, trick), [0] + following)

    def test_who_cannot_follow_plays_any_card_trumps_or_not(self):
        hands = [hand("C3 DA"), hand("D5 H2 SA"), hand("C4 C5 C6"), hand("C7 C8 C9")]
        for strain in range(5):
            self.assertEqual(plays(strain, 0, hands, cards_named("C2")), [0] + cards_named("D5 H2 SA"))

    def test_the_suit_led_counts_not_the_last_one_played(self):
        hands = [hand("C3"), hand("D5"), hand("C6 D7"), hand("C8 D8")]
        self.assertEqual(plays(1, 0, hands, cards_named("C2 D4")), [0, card("C6")])
        hands = [hand("C3"), hand("D5"), hand("D7"), hand("C8 D8")]
        self.assertEqual(plays(1, 0, hands, cards_named("C2 D4 D6")), [0, card("C8")])

    def test_each_card_led_and_each_card_held(self):
        for led, held in itertools.product(range(52), range(52)):
            if led != held:
                free = [c for c in range(52) if c not in (led, held)]
                hands = [0, 2 ** held, 2 ** free[0], 2 ** free[1]]
                self.assertEqual(plays(4, 0, hands, [led]), [0, held])

    def test_no_cards_and_no_trick(self):
        for strain, leader in itertools.product(range(5), range(4)):
            self.assertEqual(plays(strain, leader, [0] * 4, []), [0])

    def test_full_deals(self):
        suits = [2 ** 13 - 1 << 13 * suit for suit in range(4)]
        for leader in range(4):
            self.assertEqual(plays(leader, leader, suits, []), [0] + list(range(13 * leader, 13 * leader + 13)))
            hands = list(suits)
            hands[leader] -= 2 ** (13 * leader + 5)
            after = (leader + 1) % 4
            self.assertEqual(plays(4, leader, hands, [13 * leader + 5]), [0] + cards_of(suits[after]))

    def test_positions_against_the_rules(self):
        followed, free = 0, 0
        for strain, leader, hands, trick in positions(65, 4, range(14)):
            expected = may_be_played(leader, hands, trick)
            self.assertEqual(plays(strain, leader, hands, trick), [0] + expected, (leader, hands, trick))
            if trick and expected[0] // 13 == trick[0] // 13:
                followed += 1
            elif trick:
                free += 1
        self.assertGreater(min(followed, free), 100)

    def test_no_position(self):
        check_no_positions(self, plays)

    def test_hands_that_are_not_four(self):
        check_not_four_hands(self, plays)
        self.assertEqual(plays(5, 4, [GREATEST_HAND] * 4, [52]), [-3])

    def test_unchanged_and_repeated(self):
        check_positions_unchanged_and_repeated(self, plays)


if __name__ == "__main__":
    unittest.main()
