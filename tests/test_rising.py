"""Promise 5, rising: how many cards there are of which the one with the number below is behind them or isn't there."""

import itertools
import unittest

from deckturns.shuffles import marked, rising
from tests.decks import UnchangingList, new_cards, some_decks, some_marks

EVERY_N = range(53)


def by_places(deck):
    """The document's own words, card by card."""
    cards = [card for card in deck if card - 1 not in deck or deck.index(card - 1) > deck.index(card)]
    return [len(cards)]


def by_rows_taken_away(deck):
    """Go through the deck from the top on and take the next number each time: once through for each row."""
    wanted = 0
    for rows in range(len(deck) + 1):
        if wanted == len(deck):
            return [rows]
        for card in deck:
            if card == wanted:
                wanted += 1
    raise ValueError("not a deck")


class WrittenAnswers(unittest.TestCase):
    def test_empty_deck(self):
        self.assertEqual(rising([]), [0])

    def test_one_card(self):
        self.assertEqual(rising([0]), [1])

    def test_two_cards(self):
        self.assertEqual(rising([0, 1]), [1])
        self.assertEqual(rising([1, 0]), [2])

    def test_new_cards_are_one_row(self):
        for n in range(1, 53):
            self.assertEqual(rising(new_cards(n)), [1])

    def test_falling_cards_are_as_many_rows_as_cards(self):
        for n in EVERY_N:
            self.assertEqual(rising(new_cards(n)[::-1]), [n])

    def test_decks_in_other_orders(self):
        self.assertEqual(rising([3, 0, 4, 1, 2]), [2])
        self.assertEqual(rising([2, 0, 1]), [2])
        self.assertEqual(rising([1, 2, 0]), [2])
        self.assertEqual(rising([2, 5, 0, 3, 6, 1, 4]), [3])
        self.assertEqual(rising([4, 2, 0, 1, 3]), [3])

    def test_fifty_two_cards(self):
        self.assertEqual(rising(list(range(26, 52)) + list(range(26))), [2])
        self.assertEqual(rising(list(range(1, 52, 2)) + list(range(0, 52, 2))), [27])
        self.assertEqual(rising(list(range(0, 52, 2)) + list(range(1, 52, 2))), [26])


class AgainstTheWords(unittest.TestCase):
    def test_every_deck_of_up_to_seven_cards(self):
        for n in range(8):
            for cards in itertools.permutations(range(n)):
                self.assertEqual(rising(list(cards)), by_places(cards), cards)
                self.assertEqual(rising(list(cards)), by_rows_taken_away(cards), cards)

    def test_every_number_of_cards(self):
        for n in EVERY_N:
            for deck in some_decks(n):
                for marks in some_marks(n):
                    shuffled = marked(deck, marks)[1:]
                    self.assertEqual(rising(shuffled), by_places(shuffled), shuffled)
                    self.assertEqual(rising(shuffled), by_rows_taken_away(shuffled), shuffled)


class FormAndKeeping(unittest.TestCase):
    def test_the_answer_is_a_list_of_one_whole_number(self):
        for n in EVERY_N:
            for deck in some_decks(n):
                answer = rising(deck)
                self.assertIs(type(answer), list)
                self.assertEqual([type(number) for number in answer], [int])

    def test_what_is_handed_in_is_not_changed(self):
        for n in EVERY_N:
            for deck in some_decks(n):
                handed = list(deck)
                self.assertIsNot(rising(handed), handed)
                self.assertEqual(handed, deck)

    def test_what_is_handed_in_is_not_changed_for_a_while(self):
        for n in EVERY_N:
            for deck in some_decks(n):
                self.assertEqual(rising(UnchangingList(deck)), by_places(deck))

    def test_nothing_is_kept_between_calls(self):
        for n in (0, 1, 2, 10, 52):
            for deck in some_decks(n):
                first = rising(deck)
                again = rising(deck)
                self.assertEqual(first, again)
                self.assertIsNot(first, again)
                first.append(99)
                rising([2, 0, 1])
                self.assertEqual(rising(deck), by_places(deck))

    def test_a_deck_changed_by_its_owner_is_read_anew(self):
        deck = [0, 1, 2, 3]
        self.assertEqual(rising(deck), [1])
        deck.reverse()
        self.assertEqual(rising(deck), [4])


if __name__ == "__main__":
    unittest.main()
