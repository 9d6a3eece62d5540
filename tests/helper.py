"""What the tests share: cards and hands from words, deals to try, lists that watch."""

import random

SUIT_LETTERS = "CDHS"
RANK_LETTERS = "23456789TJQKA"
PLAYER_LETTERS = "NESW"
GREATEST_HAND = 2 ** 64 - 1
GREATEST_NUMBER = 2 ** 32 - 1


class FixedList(list):
    """A list that refuses every change, so that one made for a while is seen too."""

    def refuse(self, *args, **kwargs):
        raise AssertionError("what was handed in was changed")

    append = extend = insert = pop = remove = clear = sort = reverse = refuse
    __setitem__ = __delitem__ = __iadd__ = __imul__ = refuse


def card(name):
    return 13 * SUIT_LETTERS.index(name[0]) + RANK_LETTERS.index(name[1])


def hand(names):
    return sum(2 ** card(name) for name in names.split())


def bytes_of(words):
    return list(words.encode("ascii"))


def words_of(numbers):
    return bytes(numbers).decode("ascii")


def deal_of(rng, size):
    """A deal with so many cards a hand, from a source of told numbers."""
    cards = rng.sample(range(52), 4 * size)
    return [sum(2 ** c for c in cards[p * size:(p + 1) * size]) for p in range(4)]


def deals(seed, count, sizes=range(14)):
    rng = random.Random(seed)
    return [deal_of(rng, size) for size in sizes for turn in range(count)]


def cards_of(number):
    return [c for c in range(52) if number // 2 ** c % 2 == 1]


def check_unchanged_and_repeated(test, call, *arguments):
    """The call leaves what it is handed as it was, answers one new list, and the same again."""
    fixed = [FixedList(a) if isinstance(a, list) else a for a in arguments]
    copies = [list(a) if isinstance(a, list) else a for a in arguments]
    answer = call(*fixed)
    test.assertEqual([list(a) if isinstance(a, list) else a for a in fixed], copies)
    test.assertIs(type(answer), list)
    test.assertEqual({type(number) for number in answer}, {int})
    expected = list(answer)
    answer.append(99)
    answer[0] = 77
    test.assertEqual(call(*[list(a) if isinstance(a, list) else a for a in arguments]), expected)
    test.assertEqual([list(a) if isinstance(a, list) else a for a in fixed], copies)
    return expected
