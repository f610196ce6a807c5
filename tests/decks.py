"""Decks to hand in, for several files of tests."""


class UnchangingList(list):
    """A list that fails at once when it is changed, even if it were put back afterwards."""

    def refuse(self, *args, **kwargs):
        raise RuntimeError("what is handed in was changed")

    __setitem__ = __delitem__ = __iadd__ = __imul__ = refuse
    append = extend = insert = pop = remove = clear = sort = reverse = refuse


def new_cards(n):
    return list(range(n))


def other_orders(n):
    """Decks of n cards: turned round, cut, and strewn (a prime above 53 strews 1 to n within n + 1)."""
    cards = new_cards(n)
    decks = [cards[::-1], cards[n // 3:] + cards[:n // 3], cards[1::2] + cards[::2]]
    for prime in (59, 61, 67):
        decks.append([(k + 1) * prime % (n + 1) - 1 for k in cards])
    return decks


def some_decks(n):
    return [new_cards(n)] + other_orders(n)


def some_marks(n):
    """Marks for n cards: all alike, all different, 0 and 255 among them, with numbers between that stand nowhere."""
    lists = [[number] * n for number in (0, 1, 128, 255)]
    lists += [list(range(n)), list(range(n))[::-1], [5 * k for k in range(n)], [255 - 4 * k for k in range(n)]]
    lists += [[255 * (k % 2) for k in range(n)], [255 - 255 * (k % 2) for k in range(n)]]
    lists += [[k * k * 37 % 256 for k in range(n)], [k * k % 7 * 40 for k in range(n)]]
    lists += [[k * 11 % 13 % 2 for k in range(n)], [k * 11 % 13 % 3 for k in range(n)]]
    return lists
