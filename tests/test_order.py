"""Promise 1, order: after how many perfect shuffles, one at the least, n new cards are new again."""

import unittest

from deckturns.shuffles import order, perfect

EVERY_N = range(2, 201, 2)


def by_turns(inwards, deck):
    """A perfect shuffle of the test's own, for decks larger than perfect is handed."""
    upper, lower = deck[:len(deck) // 2], deck[len(deck) // 2:]
    pairs = zip(lower, upper) if inwards else zip(upper, lower)
    return [card for pair in pairs for card in pair]


def first_new_again(shuffle, n, limit):
    """The least number of shuffles from one to the limit after which n new cards are new, else None."""
    deck = list(range(n))
    for often in range(1, limit + 1):
        deck = shuffle(deck)
        if deck == list(range(n)):
            return often
    return None


class WrittenAnswers(unittest.TestCase):
    def test_least_n(self):
        self.assertEqual(order(0, 2), [1])
        self.assertEqual(order(1, 2), [2])

    def test_small_n(self):
        self.assertEqual([order(0, n) for n in (4, 6, 8, 10, 12)], [[2], [4], [3], [6], [10]])
        self.assertEqual([order(1, n) for n in (4, 6, 8, 10, 12)], [[4], [3], [6], [10], [12]])

    def test_a_full_deck(self):
        self.assertEqual(order(0, 52), [8])
        self.assertEqual(order(1, 52), [52])

    def test_most_n(self):
        self.assertEqual(order(0, 200), [99])
        self.assertEqual(order(1, 200), [66])


class AgainstTheWords(unittest.TestCase):
    def test_every_n_by_shuffling(self):
        for n in EVERY_N:
            for inwards in (0, 1):
                with self.subTest(inwards=inwards, n=n):
                    least = first_new_again(lambda deck: by_turns(inwards, deck), n, 200)
                    self.assertIsNotNone(least)
                    self.assertEqual(order(inwards, n), [least])

    def test_every_n_up_to_a_full_deck_by_perfect(self):
        for n in range(2, 53, 2):
            for inwards in (0, 1):
                with self.subTest(inwards=inwards, n=n):
                    least = first_new_again(lambda deck: perfect(inwards, deck)[1:], n, 200)
                    self.assertIsNotNone(least)
                    self.assertEqual(order(inwards, n), [least])

    def test_every_n_by_powers_of_two(self):
        for n in EVERY_N:
            for inwards in (0, 1):
                with self.subTest(inwards=inwards, n=n):
                    modulus = n + 1 if inwards else n - 1
                    least = next(k for k in range(1, 201) if (2 ** k - 1) % modulus == 0)
                    self.assertEqual(order(inwards, n), [least])


class FormAndKeeping(unittest.TestCase):
    def test_the_answer_is_a_list_of_one_whole_number(self):
        for n in EVERY_N:
            for inwards in (0, 1):
                answer = order(inwards, n)
                self.assertIs(type(answer), list)
                self.assertEqual([type(number) for number in answer], [int])

    def test_nothing_is_kept_between_calls(self):
        for n in (2, 4, 52, 200):
            for inwards in (0, 1):
                first = order(inwards, n)
                again = order(inwards, n)
                self.assertEqual(first, again)
                self.assertIsNot(first, again)
                kept = list(first)
                first.append(99)
                order(1 - inwards, 10)
                self.assertEqual(order(inwards, n), kept)


if __name__ == "__main__":
    unittest.main()
