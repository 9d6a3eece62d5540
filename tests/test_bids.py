import itertools
import random
import unittest

from cardsseen.play import bids
from helper import GREATEST_NUMBER, check_unchanged_and_repeated

CALLS = {"P": 0, "X": 1, "XX": 2}
BIDS = [level + strain for level in "1234567" for strain in "CDHSN"]
TOO_HIGH = [38, 39, 40, 42, 63, 64, 255, 256, 2 ** 16, 2 ** 31, 2 ** 32 - 38, GREATEST_NUMBER]
LONGEST = "P P P " + " ".join(bid + " P P X P P XX P P" for bid in BIDS) + " P"


def calls_of(words):
    return [CALLS[word] if word in CALLS else 3 + BIDS.index(word) for word in words.split()]


def is_over(calls):
    """By the rules as they are worded."""
    if not any(call > 2 for call in calls):
        return calls == [0] * 4
    return calls[-3:] == [0] * 3


def may_be_called(calls, call):
    """By the rules as they are worded; the sides take turns, so places tell whose side a call is of."""
    if is_over(calls) or call > 37:
        return False
    if call == 0:
        return True
    places = [place for place, other in enumerate(calls) if other > 2]
    if not places:
        return call > 2
    last = places[-1]
    since = [other for other in calls[last + 1:] if other != 0]
    of_own_side = (len(calls) - last) % 2 == 0
    if call == 1:
        return not of_own_side and since == []
    if call == 2:
        return of_own_side and since == [1]
    return call > calls[last]


def true_outcome(dealer, calls):
    """The answer for calls that can all be made, by the rules as they are worded."""
    if not is_over(calls):
        return [0, 0]
    places = [place for place, call in enumerate(calls) if call > 2]
    if not places:
        return [0, 1, 0, 0, 0, 0]
    last = places[-1]
    level, strain = divmod(calls[last] - 3, 5)
    bidders = [place for place in places if place % 2 == last % 2 and (calls[place] - 3) % 5 == strain]
    doubled = sum(1 for call in calls[last:] if call in (1, 2))
    return [0, 1, level + 1, strain, (dealer + bidders[0]) % 4, doubled]


def some_auction(rng):
    """Calls that can be made, to the end, or as many as the source of told numbers wants."""
    calls = []
    for turn in range(rng.choice((3, 6, 12, 400))):
        allowed = [call for call in range(38) if may_be_called(calls, call)]
        if not allowed:
            break
        calls.append(rng.choice([call for call in allowed if call < 3] + rng.choice((allowed[:4], allowed[:8], []))))
    return calls


class BidsTest(unittest.TestCase):
    def check_bids(self, words, *expected):
        """The answer behind 0 with dealer 0; with another the one who plays it is as many places on."""
        for dealer in range(4):
            answer = [0] + list(expected)
            if len(answer) > 2 and answer[2] > 0:
                answer[4] = (answer[4] + dealer) % 4
            self.assertEqual(bids(dealer, calls_of(words)), answer, (dealer, words))

    def check_wrong(self, words, wrong):
        """These calls can be made, but not this one behind them, whatever comes then."""
        calls = calls_of(words)
        for dealer in range(4):
            self.assertEqual(bids(dealer, calls)[0], 0, words)
            for behind in ("", "P", "P P P", "7N P P P", "XX X 1C", wrong):
                row = calls + calls_of(wrong) + calls_of(behind)
                self.assertEqual(bids(dealer, row), [-2, len(calls)], (dealer, words, wrong, behind))

    def test_not_over(self):
        for words in ("", "P", "P P", "P P P", "1C", "P 1C", "P P P 7N", "1C P", "1C P P", "1C P P X P P",
                      "1C X XX P P", "1C P 1D P 1H P P", "P P P 1C P P", "7N X XX", "7N X P P XX"):
            self.check_bids(words, 0)

    def test_over(self):
        self.check_bids("1C P P P", 1, 1, 0, 0, 0)
        self.check_bids("P 1D P 2D P P P", 1, 2, 1, 1, 0)
        self.check_bids("1S P 2N P 3N P P P", 1, 3, 4, 2, 0)
        self.check_bids("P P 4H P P P", 1, 4, 2, 2, 0)
        self.check_bids("1N X P P P", 1, 1, 4, 0, 1)
        self.check_bids("1N X XX P P P", 1, 1, 4, 0, 2)
        self.check_bids("P P P 7N X P P XX P P P", 1, 7, 4, 3, 2)

    def test_each_bid_by_each_player(self):
        for dealer, place, call in itertools.product(range(4), range(4), range(3, 38)):
            expected = [0, 1, (call - 3) // 5 + 1, (call - 3) % 5, (dealer + place) % 4, 0]
            self.assertEqual(bids(dealer, [0] * place + [call] + [0] * 3), expected)

    def test_all_passed(self):
        for dealer in range(4):
            self.assertEqual(bids(dealer, [0] * 4), [0, 1, 0, 0, 0, 0])

    def test_passes_in_a_row(self):
        self.check_bids("P P P 1C P P", 0)
        self.check_bids("P P P 1C P P P", 1, 1, 0, 3, 0)
        self.check_bids("1C P P 1D P P P", 1, 1, 1, 3, 0)
        self.check_bids("P P 1C P P", 0)

    def test_double_ends_the_row_of_passes(self):
        self.check_bids("1C P P X P", 0)
        self.check_bids("1C P P X P P", 0)
        self.check_bids("1C P P X P P P", 1, 1, 0, 0, 1)
        self.check_bids("1C X P P XX P", 0)
        self.check_bids("1C X P P XX P P", 0)
        self.check_bids("1C X P P XX P P P", 1, 1, 0, 0, 2)

    def test_passes_between_bid_and_double_and_redouble(self):
        self.check_bids("1C P P X P P XX P P P", 1, 1, 0, 0, 2)
        self.check_bids("1C X P P XX P P P", 1, 1, 0, 0, 2)
        self.check_bids("1C P P X XX P P P", 1, 1, 0, 0, 2)

    def test_bid_behind_a_double_undoes_it(self):
        self.check_bids("1C X 1D P P P", 1, 1, 1, 2, 0)
        self.check_bids("1C X XX 1D P P P", 1, 1, 1, 3, 0)
        self.check_bids("1C X P 1D P P P", 1, 1, 1, 3, 0)
        self.check_bids("1C X 1D X P P P", 1, 1, 1, 2, 1)
        self.check_bids("1C X XX 1D X P P P", 1, 1, 1, 3, 1)
        self.check_bids("1C X XX 1D X XX P P P", 1, 1, 1, 3, 2)

    def test_who_plays_it(self):
        self.check_bids("1H P 2H P P P", 1, 2, 2, 0, 0)
        self.check_bids("1H P 1S P 2H P 2S P P P", 1, 2, 3, 2, 0)
        self.check_bids("1H P 1S P 2S P P P", 1, 2, 3, 2, 0)
        self.check_bids("P 1C P 1N P 3N P P P", 1, 3, 4, 3, 0)
        self.check_bids("1H P 2C P 2H P 4H P P P", 1, 4, 2, 0, 0)

    def test_who_plays_it_where_the_other_side_bid_the_strain_too(self):
        self.check_bids("1H 2H P P P", 1, 2, 2, 1, 0)
        self.check_bids("1H P P 2H P 3H P P P", 1, 3, 2, 3, 0)
        self.check_bids("1H 2H P 3H P P P", 1, 3, 2, 1, 0)
        self.check_bids("P 1S P P 2S P 3S P P P", 1, 3, 3, 0, 0)
        self.check_bids("1S 2S 3S 4S 5S P P P", 1, 5, 3, 0, 0)
        self.check_bids("1C 2C P P 3C P P P", 1, 3, 0, 0, 0)

    def test_who_plays_it_is_not_told_by_another_strain(self):
        self.check_bids("1C P 1D P 2C P 2D P P P", 1, 2, 1, 2, 0)
        self.check_bids("1C 1D P 2C P P 3C P P P", 1, 3, 0, 0, 0)

    def test_bid_that_is_not_higher(self):
        for last, call in itertools.product(range(3, 38), repeat=2):
            for between in ([], [0], [0, 0], [1], [1, 2], [1, 0, 0]):
                calls = [last] + between + [call]
                expected = [0, 0] if call > last else [-2, len(calls) - 1]
                self.assertEqual(bids(0, calls), expected, calls)

    def test_double_with_no_bid(self):
        for words in ("", "P", "P P", "P P P"):
            self.check_wrong(words, "X")

    def test_redouble_with_no_bid(self):
        for words in ("", "P", "P P", "P P P"):
            self.check_wrong(words, "XX")

    def test_double_of_ones_own_sides_bid(self):
        for words in ("1C P", "P 1C P", "1C 1D P", "1C X 1D P", "1C X XX 1D P", "1C P P 1D P"):
            self.check_wrong(words, "X")

    def test_double_of_a_bid_that_is_doubled(self):
        for words in ("1C X", "1C X P", "1C P P X", "1C X P P"):
            self.check_wrong(words, "X")

    def test_double_of_a_bid_that_is_redoubled(self):
        for words in ("1C X XX", "1C X XX P", "1C P P X XX", "1C X P P XX", "1C X XX P P"):
            self.check_wrong(words, "X")

    def test_redouble_of_a_bid_that_is_not_doubled(self):
        for words in ("1C", "1C P", "1C P P", "1C X 1D P", "1C X XX 1D P"):
            self.check_wrong(words, "XX")

    def test_redouble_of_the_other_sides_bid(self):
        for words in ("1C X P", "P 1C X P", "1C P P X P", "1C 1D X P"):
            self.check_wrong(words, "XX")

    def test_redouble_of_a_bid_that_is_redoubled(self):
        for words in ("1C X XX", "1C X XX P", "1C X XX P P", "1C X P P XX P"):
            self.check_wrong(words, "XX")

    def test_number_above_37(self):
        for words in ("", "P", "P P P", "1C", "1C X", "1C X XX", "7N", "7N P P", "P P P P", "7N P P P"):
            calls = calls_of(words)
            for dealer, above in itertools.product(range(4), TOO_HIGH):
                self.assertEqual(bids(dealer, calls + [above]), [-2, len(calls)])
                self.assertEqual(bids(dealer, calls + [above, 0, 0, 0]), [-2, len(calls)])

    def test_call_behind_the_end(self):
        for words in ("P P P P", "1C P P P", "P P P 1C P P P", "1C X P P P", "1C X XX P P P", "7N P P P"):
            for wrong in ("P", "X", "XX", "1C", "7N"):
                self.check_wrong(words, wrong)

    def test_first_of_several_is_told(self):
        for words, place in (("P X XX X 1C", 1), ("1D 1C X X", 1), ("P P P P P P", 4), ("1C P P P 1D P", 4),
                             ("1C X X XX XX", 2), ("X", 0), ("P P P P X 1C 1C", 4), ("1C P X 1D 1C", 2)):
            for dealer in range(4):
                self.assertEqual(bids(dealer, calls_of(words)), [-2, place], words)

    def test_dealer_above_3(self):
        for dealer in (4, 5, 6, 7, 8, 2 ** 31, GREATEST_NUMBER):
            for calls in ([], [0] * 4, [3, 0, 0, 0], [1], [3, 3], [38], [0] * 5, [GREATEST_NUMBER] * 400):
                self.assertEqual(bids(dealer, calls), [-1], (dealer, calls))

    def test_longest_auction(self):
        calls = calls_of(LONGEST)
        self.assertEqual(len(calls), 319)
        for dealer in range(4):
            self.assertEqual(bids(dealer, calls), true_outcome(dealer, calls))
            for length in range(319):
                self.assertEqual(bids(dealer, calls[:length]), [0, 0])
            for call in (0, 1, 2, 3, 37, 38, GREATEST_NUMBER):
                self.assertEqual(bids(dealer, calls + [call] * 81), [-2, 319])

    def test_four_hundred_calls(self):
        for dealer in range(4):
            self.assertEqual(bids(dealer, [0] * 400), [-2, 4])
            self.assertEqual(bids(dealer, [3] * 400), [-2, 1])
            self.assertEqual(bids(dealer, list(range(3, 38)) + [0] * 365), [-2, 38])
            self.assertEqual(bids(dealer, [GREATEST_NUMBER] * 400), [-2, 0])

    def test_all_short_auctions(self):
        rows = [[]]
        for calls in rows:
            self.assertEqual(bids(1, calls), true_outcome(1, calls), calls)
            for call in (0, 1, 2, 3, 4, 8, 37, 38):
                if not may_be_called(calls, call):
                    self.assertEqual(bids(1, calls + [call]), [-2, len(calls)], (calls, call))
                elif len(calls) < 6 and call in (0, 1, 2, 3, 4, 8):
                    rows.append(calls + [call])

    def test_auctions_against_the_rules(self):
        rng = random.Random(110)
        over = {}
        for turn in range(600):
            calls, dealer = some_auction(rng), turn % 4
            expected = true_outcome(dealer, calls)
            self.assertEqual(bids(dealer, calls), expected, (dealer, calls))
            for call in list(range(38)) + TOO_HIGH[:2]:
                if not may_be_called(calls, call):
                    self.assertEqual(bids(dealer, calls + [call]), [-2, len(calls)], (dealer, calls, call))
            over[tuple(expected[5:])] = over.get(tuple(expected[5:]), 0) + 1
        self.assertGreater(min(over[doubled] for doubled in ((), (0,), (1,), (2,))), 30)

    def test_unchanged_and_repeated(self):
        for words in ("", "P P P P", "1C", "1C X XX P P P", "1C 1C", "X", "P P P P P", LONGEST):
            for dealer in (0, 1, 2, 3, 4, GREATEST_NUMBER):
                check_unchanged_and_repeated(self, bids, dealer, calls_of(words))
        check_unchanged_and_repeated(self, bids, 0, [GREATEST_NUMBER] * 400)


if __name__ == "__main__":
    unittest.main()
