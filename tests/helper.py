"""What the tests share: cards and hands from words, deals and positions to try, lists that watch."""

import functools
import itertools
import random

SUIT_LETTERS = "CDHS"
RANK_LETTERS = "23456789TJQKA"
PLAYER_LETTERS = "NESW"
GREATEST_HAND = 2 ** 64 - 1
GREATEST_NUMBER = 2 ** 32 - 1


class FixedList(list):
    """A list that refuses every change, so that one made for a while is seen too."""

    def refuse(self, *args, **kwargs):
        raise AssertionError("what was handed in was changed")

    append = extend = insert = pop = remove = clear = sort = reverse = refuse
    __setitem__ = __delitem__ = __iadd__ = __imul__ = refuse


def card(name):
    return 13 * SUIT_LETTERS.index(name[0]) + RANK_LETTERS.index(name[1])


def cards_named(words):
    return [card(name) for name in words.split()]


def hand(words):
    return sum(2 ** c for c in cards_named(words))


def bytes_of(words):
    return list(words.encode("ascii"))


def words_of(numbers):
    return bytes(numbers).decode("ascii")


def owners(hands):
    """Who has card 51, card 50 and so on down: full deals are in order as these rows are."""
    return [next(p for p in range(4) if hands[p] >> c & 1) for c in range(51, -1, -1)]


def deal_of(rng, size, pool=range(52)):
    """A deal with so many cards a hand, out of the pool, from a source of told numbers."""
    cards = rng.sample(pool, 4 * size)
    return [sum(2 ** c for c in cards[p * size:(p + 1) * size]) for p in range(4)]


def deals(seed, count, sizes=range(14)):
    rng = random.Random(seed)
    return [deal_of(rng, size) for size in sizes for turn in range(count)]


def cards_of(number):
    return [c for c in range(52) if number // 2 ** c % 2 == 1]


def check_unchanged_and_repeated(test, call, *arguments):
    """The call leaves what it is handed as it was, answers one new list, and the same again."""
    fixed = [FixedList(a) if isinstance(a, list) else a for a in arguments]
    copies = [list(a) if isinstance(a, list) else a for a in arguments]
    answer = call(*fixed)
    test.assertEqual([list(a) if isinstance(a, list) else a for a in fixed], copies)
    test.assertIs(type(answer), list)
    test.assertEqual({type(number) for number in answer}, {int})
    expected = list(answer)
    answer.append(99)
    answer[0] = 77
    test.assertEqual(call(*[list(a) if isinstance(a, list) else a for a in arguments]), expected)
    test.assertEqual([list(a) if isinstance(a, list) else a for a in fixed], copies)
    return expected


def may_be_played(leader, hands, trick):
    """The cards that may be played now, by the rules as they are worded."""
    held = cards_of(hands[(leader + len(trick)) % 4])
    following = [c for c in held if trick and c // 13 == trick[0] // 13]
    return following or held


def taker_of(strain, leader, cards):
    """Who wins the trick of these four cards, by the rules as they are worded."""
    trumps = [c for c in cards if c // 13 == strain]
    counting = trumps or [c for c in cards if c // 13 == cards[0] // 13]
    highest = max(counting, key=lambda c: c % 13)
    return (leader + cards.index(highest)) % 4


def after_card(strain, leader, hands, trick, played):
    """How many tricks side 0 gets at once when this card is played, and the position then."""
    hands, trick = list(hands), list(trick) + [played]
    hands[(leader + len(trick) - 1) % 4] -= 2 ** played
    if len(trick) < 4:
        return 0, (strain, leader, hands, trick)
    taker = taker_of(strain, leader, trick)
    return (1 if taker in (0, 2) else 0), (strain, taker, hands, [])


def true_worths(strain, leader, hands, trick):
    """What comes of each card that may be played now, by best play as it is worded."""
    worths = {}
    for played in may_be_played(leader, hands, trick):
        won, position = after_card(strain, leader, hands, trick, played)
        worths[played] = won + true_worth(*position)
    return worths


def true_worth(strain, leader, hands, trick):
    return worth_once(strain, leader, tuple(hands), tuple(trick))


# Kept, since many ways to play lead to the same cards.
@functools.lru_cache(maxsize=100000)
def worth_once(strain, leader, hands, trick):
    worths = true_worths(strain, leader, list(hands), list(trick)).values()
    if not any(hands) and not trick:
        return 0
    return max(worths) if (leader + len(trick)) % 4 in (0, 2) else min(worths)


def pool_of(rng, size):
    """Cards for hands of that size: of four suits or, where they are enough, of three or two."""
    suits = rng.sample(range(4), rng.choice((2, 3, 4)))
    pool = [13 * suit + rank for suit in suits for rank in range(13)]
    return pool if len(pool) >= 4 * size else range(52)


def played_on(rng, leader, hands, length):
    """The hands and the trick after so many cards that may be played."""
    hands, trick = list(hands), []
    while len(trick) < length:
        chosen = rng.choice(may_be_played(leader, hands, trick))
        hands[(leader + len(trick)) % 4] -= 2 ** chosen
        trick.append(chosen)
    return hands, trick


def positions(seed, count, sizes, lengths=range(4)):
    """So many positions for each strain, leader, size of hands (the trick's cards back) and
    length of the trick."""
    rng = random.Random(seed)
    for strain, leader, size, length in itertools.product(range(5), range(4), sizes, lengths):
        for turn in range(count if size > 0 or length == 0 else 0):
            hands, trick = played_on(rng, leader, deal_of(rng, size, pool_of(rng, size)), length)
            yield strain, leader, hands, trick


def spoiled_hands(player, hands):
    """With this player's hand changed: a bit above, another's card, a card more or fewer."""
    kept = hands[player] & hands[player] - 1
    spoiled = [kept, hands[player] | min(2 ** c for c in range(52) if not any(h >> c & 1 for h in hands))]
    if hands[player]:
        spoiled += [kept + 2 ** bit for bit in (52, 53, 63)]
        spoiled += [kept + (h & -h) for h in hands if h != hands[player]]
    return [hands[:player] + [h] + hands[player + 1:] for h in spoiled if h != hands[player]]


def no_positions_near(strain, leader, hands, trick):
    """What is no position any more, for one change in a position."""
    for above in (5, 6, 52, GREATEST_NUMBER):
        yield above, leader, hands, trick
    for above in (4, 5, 6, 7, GREATEST_NUMBER):
        yield strain, above, hands, trick
    for place, played in enumerate(trick):
        for wrong in [52, 53, 63, 64, 64 + played, 2 ** 31, GREATEST_NUMBER] + trick[:place]:
            yield strain, leader, hands, trick[:place] + [wrong] + trick[place + 1:]
        for player in range(4):
            # Put back in the hand it came from, it makes the hands a deal if it is not added twice.
            yield strain, leader, hands[:player] + [hands[player] + 2 ** played] + hands[player + 1:], trick
    if sum(hands) + sum(2 ** played for played in trick) < 2 ** 52 - 1:
        for player in range(4):
            for spoiled in spoiled_hands(player, hands):
                yield strain, leader, spoiled, trick


def long_tricks():
    """Tricks of four to six cards, with which all else would make a position."""
    rng = random.Random(50)
    for leader, length in itertools.product(range(4), (4, 5, 6)):
        for strain in range(5):
            yield (strain, leader) + played_on(rng, leader, deal_of(rng, 3, range(13)), length)


def not_followed():
    """One player who did not follow and still has a card of the suit led, the others as they may."""
    rng = random.Random(51)
    for leader, led, other in itertools.product(range(4), range(4), range(4)):
        for length, place in ((2, 1), (3, 1), (3, 2)):
            if led != other:
                before = deal_of(rng, 3, range(13 * led, 13 * led + 13))
                player = (leader + place) % 4
                swapped = 13 * other + rng.randrange(13)
                before[player] = (before[player] & before[player] - 1) + 2 ** swapped
                hands, trick = played_on(rng, leader, before, length)
                hands[player] += 2 ** trick[place] - 2 ** swapped
                trick[place] = swapped
                yield rng.randrange(5), leader, hands, trick


def check_no_positions(test, call):
    """The call refuses with -3 what is no position, each fault by itself."""
    for position in positions(52, 1, (1, 2, 3)):
        test.assertEqual(call(*position)[0], 0, position)
        for wrong in no_positions_near(*position):
            test.assertEqual(call(*wrong), [-3], wrong)
    for wrong in itertools.chain(long_tricks(), not_followed()):
        test.assertEqual(call(*wrong), [-3], wrong)
    for hands in ([2 ** 52] * 4, [2 ** bit for bit in (60, 61, 62, 63)], [GREATEST_HAND] * 4, [1] * 4, [0, 0, 0, 1]):
        test.assertEqual(call(4, 0, hands, []), [-3], hands)
    for trick in ([0], [0, 1], [0, 1, 2], [0, 1, 2, 3], [GREATEST_NUMBER] * 6):
        test.assertEqual(call(4, 0, [0] * 4, trick), [-3], trick)


def check_not_four_hands(test, call):
    """The call refuses with -1 hands that are not four, whatever else is wrong."""
    good = [2 ** c for c in range(6)]
    for count in (0, 1, 2, 3, 5, 6):
        for hands in (good, [0] * 6, [1] * 6, [2 ** 5 - 1 << 5 * p for p in range(6)], [GREATEST_HAND] * 6):
            for strain, leader in ((0, 0), (4, 3), (5, 0), (0, 4), (GREATEST_NUMBER, GREATEST_NUMBER)):
                for trick in ([], [6], [0], [6, 6], [52], [6, 7, 8, 9], [GREATEST_NUMBER] * 6):
                    arguments = strain, leader, hands[:count], trick
                    test.assertEqual(call(*arguments), [-1], arguments)


def check_positions_unchanged_and_repeated(test, call):
    for position in positions(53, 1, (0, 1, 3)):
        check_unchanged_and_repeated(test, call, *position)
    for hands, trick in (([], []), ([1] * 4, [2]), ([1, 2, 4, 8], [0]), ([0] * 4, [0, 1, 2, 3]), ([0] * 6, [52])):
        check_unchanged_and_repeated(test, call, 4, 3, hands, trick)


def check_too_many_cards(test, call):
    """The call refuses with -9 more than 3 cards a hand, the trick's back, but -3 and -1 come first."""
    for position in positions(54, 1, range(4, 14)):
        test.assertEqual(call(*position), [-9], position)
    for position in positions(55, 1, (4, 13)):
        for wrong in no_positions_near(*position):
            test.assertEqual(call(*wrong), [-3], wrong)
        strain, leader, hands, trick = position
        test.assertEqual(call(strain, leader, hands[:3], trick), [-1], position)
        test.assertEqual(call(strain, leader, hands + [0], trick), [-1], position)
    for position in positions(56, 1, (0, 1, 2, 3)):
        test.assertEqual(call(*position)[0], 0, position)
