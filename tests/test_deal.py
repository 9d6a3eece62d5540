import math
import random
import unittest

from cardsseen.play import deal, fault, number, read, write
from helper import check_unchanged_and_repeated, deals, owners

COUNT = math.factorial(52) // math.factorial(13) ** 4
GREATEST = 79228162514264337593543950335
FIRST = [(2 ** 13 - 1) << 13 * suit for suit in (3, 2, 1, 0)]
LAST = FIRST[::-1]


class DealTest(unittest.TestCase):
    def test_first_deal(self):
        self.assertEqual(deal(0), [0] + FIRST)

    def test_last_deal(self):
        self.assertEqual(deal(COUNT - 1), [0] + LAST)
        self.assertEqual(deal(53644737765488792839237439999), [0] + LAST)

    def test_second_deal(self):
        """Cards 13 and 12 are the lowest whose owners, west after south, can be turned round."""
        hands = list(FIRST)
        hands[2] += 2 ** 12 - 2 ** 13
        hands[3] += 2 ** 13 - 2 ** 12
        self.assertEqual(deal(1), [0] + hands)

    def test_deals_from_the_first_on_rise(self):
        rows = [owners(deal(n)[1:]) for n in range(300)]
        self.assertTrue(all(one < other for one, other in zip(rows, rows[1:])))

    def test_deals_up_to_the_last_rise(self):
        rows = [owners(deal(COUNT - 300 + n)[1:]) for n in range(300)]
        self.assertTrue(all(one < other for one, other in zip(rows, rows[1:])))

    def test_each_player_has_the_highest_card_in_a_quarter(self):
        for player in range(4):
            for n in (player * COUNT // 4, (player + 1) * COUNT // 4 - 1):
                hands = deal(n)[1:]
                self.assertEqual(owners(hands)[0], player)
            rest = sorted(list(range(4)) * 13)
            rest.remove(player)
            self.assertEqual(owners(deal(player * COUNT // 4)[1:]), [player] + rest)

    def test_number_gives_back_what_deal_was_handed(self):
        rng = random.Random(60)
        tried = list(range(100)) + [COUNT - 1 - n for n in range(100)] + [rng.randrange(COUNT) for turn in range(300)]
        tried += [2 ** bit + step for bit in range(1, 96) for step in (-1, 0, 1) if 2 ** bit + step < COUNT]
        for n in tried:
            answer = deal(n)
            self.assertEqual(len(answer), 5)
            self.assertEqual(answer[0], 0)
            self.assertEqual([hand.bit_count() for hand in answer[1:]], [13] * 4)
            self.assertEqual(fault(answer[1:]), [0, 0])
            self.assertEqual(number(answer[1:]), [0, n])

    def test_deal_gives_back_the_hands_that_number_was_handed(self):
        for hands in [FIRST, LAST] + deals(61, 300, [13]):
            self.assertEqual(deal(number(hands)[1]), [0] + hands)

    def test_texts_tell_deals_too(self):
        for hands in deals(62, 30, [13]):
            for first in range(4):
                self.assertEqual(deal(number(read(write(first, hands)[1:])[1:])[1]), [0] + hands)

    def test_there_is_no_such_deal(self):
        for n in (COUNT, COUNT + 1, COUNT + 2, 2 ** 96 - 2 ** 32, GREATEST - 1, GREATEST):
            self.assertEqual(deal(n), [-3], n)
        rng = random.Random(63)
        for turn in range(100):
            self.assertEqual(deal(rng.randrange(COUNT, GREATEST + 1)), [-3])

    def test_unchanged_and_repeated(self):
        for n in (0, 1, 1000, COUNT // 3, COUNT - 1, COUNT, GREATEST):
            check_unchanged_and_repeated(self, deal, n)


if __name__ == "__main__":
    unittest.main()
