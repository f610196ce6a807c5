"""Promise 1, perfect: 0, then the deck after a perfect shuffle."""

import itertools
import unittest

from deckturns.shuffles import perfect
from tests.decks import UnchangingList, other_orders


def place_after(inwards, n, place):
    """Where the card at a place comes to stand: told by places, not by halves dealt by turns."""
    if place < n // 2:
        return 2 * place + inwards
    return 2 * (place - n // 2) + 1 - inwards


def expected(inwards, deck):
    cards = [None] * len(deck)
    for place, card in enumerate(deck):
        cards[place_after(inwards, len(deck), place)] = card
    return [0] + cards


class WrittenAnswers(unittest.TestCase):
    def test_empty_deck(self):
        self.assertEqual(perfect(0, []), [0])
        self.assertEqual(perfect(1, []), [0])

    def test_two_cards(self):
        self.assertEqual(perfect(0, [0, 1]), [0, 0, 1])
        self.assertEqual(perfect(1, [0, 1]), [0, 1, 0])
        self.assertEqual(perfect(0, [1, 0]), [0, 1, 0])
        self.assertEqual(perfect(1, [1, 0]), [0, 0, 1])

    def test_four_cards(self):
        self.assertEqual(perfect(0, [0, 1, 2, 3]), [0, 0, 2, 1, 3])
        self.assertEqual(perfect(1, [0, 1, 2, 3]), [0, 2, 0, 3, 1])
        self.assertEqual(perfect(0, [3, 1, 0, 2]), [0, 3, 0, 1, 2])
        self.assertEqual(perfect(1, [3, 1, 0, 2]), [0, 0, 3, 2, 1])

    def test_ten_cards(self):
        self.assertEqual(perfect(0, list(range(10))), [0, 0, 5, 1, 6, 2, 7, 3, 8, 4, 9])
        self.assertEqual(perfect(1, list(range(10))), [0, 5, 0, 6, 1, 7, 2, 8, 3, 9, 4])
        deck = [7, 2, 9, 0, 4, 1, 8, 3, 6, 5]
        self.assertEqual(perfect(0, deck), [0, 7, 1, 2, 8, 9, 3, 0, 6, 4, 5])
        self.assertEqual(perfect(1, deck), [0, 1, 7, 8, 2, 3, 9, 6, 0, 5, 4])

    def test_fifty_two_cards(self):
        out = [0]
        inside = [0]
        for k in range(26):
            out += [k, 26 + k]
            inside += [26 + k, k]
        self.assertEqual(perfect(0, list(range(52))), out)
        self.assertEqual(perfect(1, list(range(52))), inside)


class AgainstPlaces(unittest.TestCase):
    def test_every_deck_of_up_to_six_cards(self):
        for n in (0, 2, 4, 6):
            for cards in itertools.permutations(range(n)):
                for inwards in (0, 1):
                    with self.subTest(inwards=inwards, deck=cards):
                        self.assertEqual(perfect(inwards, list(cards)), expected(inwards, cards))

    def test_every_even_number_of_cards(self):
        for n in range(0, 53, 2):
            for deck in [list(range(n))] + other_orders(n):
                self.assertEqual(sorted(deck), list(range(n)))
                for inwards in (0, 1):
                    with self.subTest(inwards=inwards, deck=deck):
                        self.assertEqual(perfect(inwards, deck), expected(inwards, deck))


class FormAndKeeping(unittest.TestCase):
    def test_the_answer_is_a_list_of_whole_numbers(self):
        for n in range(0, 53, 2):
            for inwards in (0, 1):
                answer = perfect(inwards, list(range(n)))
                self.assertIs(type(answer), list)
                self.assertEqual(len(answer), n + 1)
                self.assertEqual({type(number) for number in answer}, {int})

    def test_what_is_handed_in_is_not_changed(self):
        for n in range(0, 53, 2):
            for deck in [list(range(n))] + other_orders(n):
                for inwards in (0, 1):
                    handed = list(deck)
                    answer = perfect(inwards, handed)
                    self.assertEqual(handed, deck)
                    self.assertIsNot(answer, handed)
                    answer.clear()
                    self.assertEqual(handed, deck)

    def test_what_is_handed_in_is_not_changed_for_a_while(self):
        for n in (0, 2, 4, 10, 52):
            for inwards in (0, 1):
                deck = list(range(n))
                self.assertEqual(perfect(inwards, UnchangingList(deck)), expected(inwards, deck))

    def test_nothing_is_kept_between_calls(self):
        for n in (0, 2, 4, 10, 52):
            for inwards in (0, 1):
                deck = list(range(n))[::-1]
                first = perfect(inwards, deck)
                again = perfect(inwards, deck)
                self.assertEqual(first, again)
                self.assertIsNot(first, again)
                first.append(99)
                perfect(1 - inwards, list(range(8)))
                self.assertEqual(perfect(inwards, deck), expected(inwards, deck))

    def test_a_deck_changed_by_its_owner_is_read_anew(self):
        deck = [0, 1, 2, 3]
        perfect(0, deck)
        deck.reverse()
        self.assertEqual(perfect(0, deck), [0, 3, 1, 2, 0])


if __name__ == "__main__":
    unittest.main()
