import itertools
import unittest

from cardsseen.play import score
from helper import GREATEST_NUMBER, check_unchanged_and_repeated

EVERY = list(itertools.product(range(1, 8), range(5), range(3), range(2), range(14)))
STRAINS = {"C": 0, "D": 1, "H": 2, "S": 3, "N": 4}


def made(level, strain, doubled, vul, above):
    """The words' sum, part by part."""
    each = 20 if strain in (0, 1) else 30
    parts = [each] * level + ([10] if strain == 4 else [])
    bid = sum(parts) * 2 ** doubled
    parts = [bid, 50 * doubled]
    if bid >= 100:
        parts.append(500 if vul else 300)
    else:
        parts.append(50)
    if level == 6:
        parts.append(750 if vul else 500)
    elif level == 7:
        parts.append(1500 if vul else 1000)
    for more in range(above):
        parts.append(each if not doubled else doubled * (200 if vul else 100))
    return sum(parts)


def not_made(doubled, vul, missing):
    """What the missing tricks cost, the rows being as long as there can be tricks too few."""
    if doubled == 0:
        costs = [100 if vul else 50] * 13
    elif vul:
        costs = [200] + [300] * 12
    else:
        costs = [100, 200, 200] + [300] * 10
    return -max(doubled, 1) * sum(costs[:missing])


def true_score(level, strain, doubled, vul, tricks):
    if tricks >= 6 + level:
        return made(level, strain, doubled, vul, tricks - 6 - level)
    return not_made(doubled, vul, 6 + level - tricks)


class ScoreTest(unittest.TestCase):
    def check_scores(self, contract, tricks, *expected):
        """Three scores with vul 0 (not doubled, doubled, redoubled), then three with vul 1."""
        level, strain = int(contract[0]), STRAINS[contract[1]]
        told = [score(level, strain, doubled, vul, tricks) for vul in range(2) for doubled in range(3)]
        self.assertEqual(told, [[0, number] for number in expected], (contract, tricks))

    def test_made_below_game(self):
        self.check_scores("1C", 7, 70, 140, 230, 70, 140, 230)
        self.check_scores("1H", 7, 80, 160, 520, 80, 160, 720)
        self.check_scores("1N", 7, 90, 180, 560, 90, 180, 760)
        self.check_scores("2D", 8, 90, 180, 560, 90, 180, 760)
        self.check_scores("2S", 8, 110, 470, 640, 110, 670, 840)
        self.check_scores("2N", 8, 120, 490, 680, 120, 690, 880)
        self.check_scores("4C", 10, 130, 510, 720, 130, 710, 920)

    def test_game(self):
        self.check_scores("3N", 9, 400, 550, 800, 600, 750, 1000)
        self.check_scores("4H", 10, 420, 590, 880, 620, 790, 1080)
        self.check_scores("5D", 11, 400, 550, 800, 600, 750, 1000)

    def test_slam(self):
        self.check_scores("6C", 12, 920, 1090, 1380, 1370, 1540, 1830)
        self.check_scores("6S", 12, 980, 1210, 1620, 1430, 1660, 2070)
        self.check_scores("6N", 12, 990, 1230, 1660, 1440, 1680, 2110)
        self.check_scores("7D", 13, 1440, 1630, 1960, 2140, 2330, 2660)
        self.check_scores("7N", 13, 1520, 1790, 2280, 2220, 2490, 2980)

    def test_tricks_above(self):
        self.check_scores("1D", 8, 90, 240, 430, 90, 340, 630)
        self.check_scores("1S", 13, 260, 760, 1720, 260, 1360, 3120)
        self.check_scores("3N", 11, 460, 750, 1200, 660, 1150, 1800)
        self.check_scores("6H", 13, 1010, 1310, 1820, 1460, 1860, 2470)

    def test_not_made(self):
        self.check_scores("4S", 9, -50, -100, -200, -100, -200, -400)
        self.check_scores("4S", 8, -100, -300, -600, -200, -500, -1000)
        self.check_scores("4S", 7, -150, -500, -1000, -300, -800, -1600)
        self.check_scores("4S", 6, -200, -800, -1600, -400, -1100, -2200)
        self.check_scores("4S", 5, -250, -1100, -2200, -500, -1400, -2800)
        self.check_scores("7N", 0, -650, -3500, -7000, -1300, -3800, -7600)
        self.check_scores("1C", 0, -350, -1700, -3400, -700, -2000, -4000)

    def test_every_contract_against_the_words(self):
        for contract in EVERY:
            self.assertEqual(score(*contract), [0, true_score(*contract)], contract)

    def test_out_of_bounds(self):
        above = (8, 5, 3, 2, 14)
        for inside in ([1, 0, 0, 0, 0], [7, 4, 2, 1, 13], [3, 2, 1, 0, 9]):
            self.assertEqual(score(*inside)[0], 0)
            for place in range(5):
                for wrong in range(above[place], 66):
                    self.assertEqual(score(*inside[:place], wrong, *inside[place + 1:]), [-1], (inside, place, wrong))
                for wrong in (2 ** 8, 2 ** 16, 2 ** 31, GREATEST_NUMBER):
                    self.assertEqual(score(*inside[:place], wrong, *inside[place + 1:]), [-1], (inside, place, wrong))
            self.assertEqual(score(0, *inside[1:]), [-1], inside)

    def test_several_out_of_bounds(self):
        for wrong in itertools.product((0, 1, 8), (0, 5), (0, 3), (0, 2), (0, 14)):
            if wrong != (1, 0, 0, 0, 0):
                self.assertEqual(score(*wrong), [-1], wrong)
        self.assertEqual(score(*[GREATEST_NUMBER] * 5), [-1])

    def test_repeated(self):
        for arguments in EVERY[::17] + [(0, 0, 0, 0, 0), (8, 4, 0, 0, 13), (1, 5, 0, 0, 7)]:
            check_unchanged_and_repeated(self, score, *arguments)


if __name__ == "__main__":
    unittest.main()
