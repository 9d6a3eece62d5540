import random
import re
import unittest

from cardsseen.play import read, write
from helper import PLAYER_LETTERS, bytes_of, check_unchanged_and_repeated, deals, hand

HIGH_TO_LOW = "AKQJT98765432"
SUIT_FORM = "".join(letter + "?" for letter in HIGH_TO_LOW)
HAND_FORM = r"\.".join([SUIT_FORM] * 4)
DEAL_FORM = re.compile("[NESW]:" + " ".join([HAND_FORM] * 4))


def cards_in(words):
    """The cards of a hand, whole or broken off, as pairs of a suit's place and a letter."""
    return [(place, letter) for place, suit in enumerate(words.split(".")) for letter in suit]


def is_deal_text(words):
    if DEAL_FORM.fullmatch(words) is None:
        return False
    held = [cards_in(part) for part in words[2:].split(" ")]
    every = sum(held, [])
    return len({len(cards) for cards in held}) == 1 and len(set(every)) == len(every)


def hand_words(cards):
    kept = set(cards)
    suits = [[letter for letter in HIGH_TO_LOW if (place, letter) in kept] for place in range(4)]
    return ".".join("".join(suit) for suit in suits)


def completed(start, size):
    """The text begun so, gone on with to hands of that size as well as can be."""
    parts = start[2:].split(" ")
    held = [cards_in(part) for part in parts]
    gone = set(sum(held, []))
    free = [(place, letter) for place in range(4) for letter in HIGH_TO_LOW]
    free = [card for card in free if card not in gone]
    under_way = parts[-1].split(".")
    suit = len(under_way) - 1
    passed = HIGH_TO_LOW.find(under_way[-1][-1]) if under_way[-1] else -1
    ahead = [c for c in free if c[0] > suit or c[0] == suit and HIGH_TO_LOW.index(c[1]) > passed]
    filling = ahead[:max(0, size - len(held[-1]))]
    free = [card for card in free if card not in filling]
    hands = parts[:-1] + [hand_words(held[-1] + filling)]
    while len(hands) < 4:
        hands.append(hand_words(free[:size]))
        free = free[size:]
    return start[:2] + " ".join(hands)


def can_become_deal_text(start):
    """Tried out: what is begun so is gone on with, and the whole is looked at."""
    if len(start) < 2:
        return start in ("", "N", "E", "S", "W")
    if start[0] not in PLAYER_LETTERS or start[1] != ":":
        return False
    first = start[2:].split(" ")[0]
    settled = len(first) + 2 < len(start)
    candidates = (completed(start, size) for size in ([len(cards_in(first))] if settled else range(13, -1, -1)))
    return any(c.startswith(start) and is_deal_text(c) for c in candidates)


def first_wrong_place(words):
    for place in range(len(words)):
        if not can_become_deal_text(words[:place + 1]):
            return place
    return None if is_deal_text(words) else len(words)


def spoiled(rng, numbers):
    """The text with one thing in it changed."""
    place = rng.randrange(len(numbers) + 1)
    other = rng.choice(bytes_of(HIGH_TO_LOW + "...  NESW:x"))
    kind = rng.randrange(5)
    if kind == 0:
        return numbers[:place]
    if kind == 1:
        return numbers[:place] + [other] + numbers[place:]
    if kind == 2:
        return numbers[:place] + numbers[place + 1:]
    if kind == 3:
        return numbers[:place] + [other] + numbers[place + 1:]
    second = rng.randrange(len(numbers) + 1)
    low, high = sorted((place, second))
    return numbers[:low] + numbers[high:]


class ReadTest(unittest.TestCase):
    def check_place(self, words, place):
        self.assertEqual(read(bytes_of(words)), [-2, place], words)

    def check_hands(self, words, hands):
        self.assertEqual(read(bytes_of(words)), [0] + hands, words)

    def test_from_each_player(self):
        one, two, three, four = hand("SA C2"), hand("HK HQ"), hand("DJ DT"), hand("C9 S8")
        rest = ":A...2 .KQ.. ..JT. 8...9"
        self.check_hands("N" + rest, [one, two, three, four])
        self.check_hands("E" + rest, [four, one, two, three])
        self.check_hands("S" + rest, [three, four, one, two])
        self.check_hands("W" + rest, [two, three, four, one])

    def test_no_cards(self):
        for letter in PLAYER_LETTERS:
            self.check_hands(letter + ":... ... ... ...", [0, 0, 0, 0])

    def test_each_suit_and_rank(self):
        for suit in range(4):
            for rank, letter in enumerate(reversed(HIGH_TO_LOW)):
                card = 13 * suit + rank
                others = [2 ** c for c in range(52) if c != card][:3]
                words = "S:" + "." * (3 - suit) + letter + "." * suit
                tail = bytes(write(2, [others[0], others[1], 2 ** card, others[2]])[1:])
                self.assertEqual(tail.decode()[:len(words)], words)
                self.check_hands(tail.decode(), [others[0], others[1], 2 ** card, others[2]])

    def test_full_deals(self):
        suits = [HIGH_TO_LOW + "...", "." + HIGH_TO_LOW + "..",
                 ".." + HIGH_TO_LOW + ".", "..." + HIGH_TO_LOW]
        whole = [(2 ** 13 - 1) << 13 * suit for suit in (3, 2, 1, 0)]
        self.check_hands("N:" + " ".join(suits), whole)
        self.check_hands("W:" + " ".join(suits), whole[1:] + whole[:1])
        self.check_hands("N:" + " ".join(reversed(suits)), whole[::-1])
        for hands in deals(5, 30, [13]):
            for first in range(4):
                self.assertEqual(read(write(first, hands)[1:]), [0] + hands)

    def test_texts_and_deals_tell_one_another(self):
        for hands in deals(6, 5):
            for first in range(4):
                numbers = write(first, hands)[1:]
                self.assertTrue(is_deal_text(bytes(numbers).decode()))
                self.assertEqual(read(numbers), [0] + hands)

    def test_empty_text(self):
        self.assertEqual(read([]), [-2, 0])

    def test_wrong_first_byte(self):
        for number in range(256):
            if number not in bytes_of(PLAYER_LETTERS):
                self.assertEqual(read([number]), [-2, 0])
                self.assertEqual(read([number] + bytes_of(":... ... ... ...")), [-2, 0])

    def test_no_colon(self):
        for letter in PLAYER_LETTERS:
            self.check_place(letter, 1)
            self.check_place(letter + "... ... ... ...", 1)
            self.check_place(letter + ";... ... ... ...", 1)
            self.check_place(letter + ":", 2)
            self.check_place(letter + "::... ... ... ...", 2)

    def test_wrong_byte_in_a_hand(self):
        fitting = bytes_of(HIGH_TO_LOW + ".")
        for number in range(256):
            text = bytes_of("N:") + [number]
            self.assertEqual(read(text), [-2, 3 if number in fitting else 2])
        for letter in "akqjt1XNESW:-\t\n\0":
            self.check_place("N:A.K.Q.J " + letter + "...", 10)
            self.check_place("N:A" + letter + "...", 3)

    def test_rank_out_of_order(self):
        for place, letter in enumerate(HIGH_TO_LOW):
            for other in HIGH_TO_LOW[:place + 1]:
                self.check_place("N:" + letter + other + "...", 3)
                self.check_place("N:..." + letter + other, 6)

    def test_card_twice_across_hands(self):
        self.check_place("N:A... A... ... ...", 7)
        self.check_place("N:A... K... A... Q...", 12)
        self.check_place("N:A... K... Q... K...", 17)
        self.check_place("N:...2 ...3 ...4 ...2", 20)
        self.check_place("E:.AK.. .QJ.. .QT..", 15)
        self.check_place("E:.AK.. .QT.. .JT..", 16)
        self.check_hands("N:A... .A.. ..A. ...A", [hand("SA"), hand("HA"), hand("DA"), hand("CA")])

    def test_hand_with_too_many_cards(self):
        self.check_place("N:" + HIGH_TO_LOW + ".A..", 16)
        self.check_place("N:AKQJT98.AKQJT98..", 16)
        self.check_place("N:A... KQ...", 8)
        self.check_place("N:A... K.A..", 9)
        self.check_place("N:... A...", 6)
        self.check_place("N:... ... ... ...2", 17)

    def test_hand_that_ends_with_too_few_cards(self):
        self.check_place("N:A... ... ... ...", 10)
        self.check_place("N:AK... QJ... T... 98...", 18)
        self.check_place("N:A... K... Q... ...", 20)

    def test_hand_that_cannot_be_filled_any_more(self):
        self.check_place("N:" + HIGH_TO_LOW + "... ...K", 22)
        self.check_place("N:" + HIGH_TO_LOW + "... ...A", 23)
        self.check_place("N:..." + HIGH_TO_LOW + " ...", 21)
        self.check_place("N:..." + HIGH_TO_LOW + " ..", 21)
        self.check_place("N:..." + HIGH_TO_LOW + " ..K", 21)
        self.check_place("N:AK... ...2", 11)
        self.check_place("N:AK... ...3", 12)
        self.check_place("N:...32 ...4", 11)
        self.check_place("N:...32 ...5", 12)
        self.check_place("N:A...32 ...5", 12)
        self.check_place("N:A...32 ...654", 15)
        self.check_place("N:A...A ...2 ", 11)

    def test_last_hand_of_a_full_deal_has_what_is_left(self):
        words = "N:" + HIGH_TO_LOW + "... ." + HIGH_TO_LOW + ".. .." + HIGH_TO_LOW + ". "
        self.check_place(words, 53)
        self.check_place(words + "...AKQ", 59)
        self.check_place(words + "A", 53)
        self.check_place(words + "...K", 56)
        self.check_place(words + "...AQ", 57)
        self.check_place(words + "..." + HIGH_TO_LOW[:-1], 68)
        self.check_place(words + "..." + HIGH_TO_LOW + "2", 69)

    def test_point_too_few_or_too_many(self):
        self.check_place("N:.. ... ... ...", 4)
        self.check_place("N:... .. ... ...", 8)
        self.check_place("N:.... ... ... ...", 5)
        self.check_place("N:... ... ... ....", 17)
        self.check_place("N:... ... ... ..", 16)
        self.check_place("N:A....", 6)

    def test_blank_too_few_or_too_many(self):
        self.check_place("N: ... ... ... ...", 2)
        self.check_place("N:...  ... ... ...", 6)
        self.check_place("N:...... ... ...", 5)
        self.check_place("N:... ... ... ... ", 17)
        self.check_place("N:A K...", 3)
        self.check_place(" N:... ... ... ...", 0)
        self.check_place("N :... ... ... ...", 1)

    def test_byte_behind_the_end(self):
        for number in range(256):
            for words in ("N:... ... ... ...", "S:A... .A.. ..A. ...A", "W:AK... QJ... T9... 87..."):
                text = bytes_of(words)
                self.assertEqual(read(text + [number]), [-2, len(text)])
                self.assertEqual(read(text + [number] * 9), [-2, len(text)])

    def test_text_that_breaks_off(self):
        for hands in deals(7, 2):
            for first in range(4):
                text = write(first, hands)[1:]
                for length in range(len(text)):
                    self.assertEqual(read(text[:length]), [-2, length])

    def test_longest_texts(self):
        self.assertEqual(read([0] * 200), [-2, 0])
        self.assertEqual(read([255] * 200), [-2, 0])
        self.assertEqual(read(bytes_of("N" * 200)), [-2, 1])
        self.assertEqual(read(bytes_of("N:" + "." * 198)), [-2, 5])
        self.assertEqual(read(bytes_of("N:" + "A" * 198)), [-2, 3])
        self.assertEqual(read(bytes_of("N:" + " " * 198)), [-2, 2])
        for hands in deals(8, 3, [0, 13]):
            text = write(0, hands)[1:]
            self.assertEqual(read(text + [46] * (200 - len(text))), [-2, len(text)])

    def test_spoiled_texts_against_trying_out(self):
        rng = random.Random(9)
        told = {}
        for hands in deals(10, 9) + deals(11, 40, [1, 2, 12, 13]):
            text = spoiled(rng, write(rng.randrange(4), hands)[1:])
            place = first_wrong_place(bytes(text).decode("latin-1"))
            if place is not None:
                self.assertEqual(read(text), [-2, place], bytes(text))
            else:
                self.assertEqual(read(text)[0], 0, bytes(text))
            told[place] = True
        self.assertGreater(len(told), 20)

    def test_tight_texts_against_trying_out(self):
        """Goes on by bytes that fit, the later ones rather, so that few cards are left ahead."""
        rng = random.Random(12)
        for turn in range(40):
            words = PLAYER_LETTERS[turn % 4] + ":"
            while not is_deal_text(words):
                fits = [b for b in HIGH_TO_LOW + " ." if can_become_deal_text(words + b)]
                for letter in HIGH_TO_LOW + " .":
                    if not is_deal_text(words + letter):
                        self.check_place(words + letter, len(words) + (letter in fits))
                words += fits[max(rng.randrange(len(fits)) for tries in range(turn % 3 + 1))]
            self.assertEqual(read(bytes_of(words))[0], 0, words)

    def test_unchanged_and_repeated(self):
        for words in ("", "X", "N", "N:", "N:AA", "N:... ... ... ...", "S:A... .A.. ..A. ...A", "N:A... "):
            check_unchanged_and_repeated(self, read, bytes_of(words))


if __name__ == "__main__":
    unittest.main()
